"""The row of names a, b, .., z, aa, ab, .., az, ba, .."""

from returnsdue.terms import LETTERS


def name_at(at):
    """The name at a place of the row, counted from 0."""
    letters = ""
    while at >= 0:
        letters = LETTERS[at % len(LETTERS)] + letters
        at = at // len(LETTERS) - 1
    return letters
