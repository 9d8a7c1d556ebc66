"""Beginnings of texts completed: what is told next in the shortest going on, of several the least."""

from returnsdue.reading import many_items
from returnsdue.terms import LETTERS, is_name


def next_signs(reader):
    """The next signs of the shortest going on behind a beginning that is no right text yet."""
    if reader.word and reader.is_word_right():
        return ")" if reader.wanted_behind() == "close" else " "
    wanted = reader.wanted()
    if wanted == "close":
        return ")"
    if wanted == "head":
        return head_completed(reader)[len(reader.word):]
    if wanted == "name":
        return letter_added(reader)
    if not reader.word:
        return "0"
    if reader.word == "-":
        return "1"
    names = [name for name in reader.scope() if name.startswith(reader.word)]
    return least([(len(name), name) for name in names])[len(reader.word):]


def least(pairs):
    """The text of the least of these pairs of a length and a text."""
    return min(pairs)[1]


def head_completed(reader):
    """The head with which the expression that is being told can be ended soonest.

    Each name and each part behind it takes a blank and one sign at least.
    """
    return least([(len(head) + 2 * many_items(head), head) for head in reader.heads()])


def letter_added(reader):
    """The first letter with which the word being told is a name that may be bound."""
    bound = reader.bound_so_far()
    names = [reader.word + letter for letter in LETTERS]
    return [name for name in names if is_name(name) and name not in bound][0][-1]
