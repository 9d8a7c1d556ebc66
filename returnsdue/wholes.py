"""Wholes and numbers: what counts as one, and what comes of two of them."""

LIMIT = 10 ** 30
WORKS = ("plus", "minus", "times", "less", "same")


def is_whole(value):
    """Whether value is an int other than True and False."""
    return isinstance(value, int) and not isinstance(value, bool)


def is_natural(value):
    """Whether value is a whole from 0 on."""
    return is_whole(value) and value >= 0


def is_number(value):
    """Whether value is a whole of at most 30 digits."""
    return is_whole(value) and -LIMIT < value < LIMIT


def worked(word, one, other):
    """What comes of two wholes by a word of work."""
    if word == "plus":
        return one + other
    if word == "minus":
        return one - other
    if word == "times":
        return one * other
    if word == "less":
        return 1 if one < other else 0
    return 1 if one == other else 0
