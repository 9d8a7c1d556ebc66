"""Beginnings of texts completed: what is told next in the shortest going on, of several the least."""

from returnsdue.reading import items_begun
from returnsdue.shapes import BINDERS, LENGTHS
from returnsdue.terms import LETTERS, is_name


def next_signs(reader):
    """The next signs of the shortest going on behind a beginning that is no right text yet."""
    if reader.word and reader.is_word_right():
        return ")" if reader.wanted_behind() == "close" else " "
    wanted = reader.wanted()
    if wanted == "close":
        return ")"
    if wanted == "head":
        return head_completed(reader)[len(reader.word):]
    if wanted == "name":
        return letter_added(reader)
    if not reader.word:
        return "0"
    if reader.word == "-":
        return "1"
    names = [name for name in reader.scope() if name.startswith(reader.word)]
    return shortest(names)[len(reader.word):]


def shortest(texts):
    """The shortest of these texts, of several the least."""
    return min([(len(one), one) for one in texts])[1]


def head_completed(reader):
    """The head with which the expression that is being told can be ended soonest."""
    told = shortest([expression_told(head) for head in reader.heads()])
    return told.partition(" ")[0]


def expression_told(head):
    """The words of the shortest expression with this head, with blanks between."""
    items = items_begun(head)
    words = [head]
    letters = list(LETTERS)
    for at in range(len(items), LENGTHS[items[0]]):
        words.append(letters.pop(0) if at in BINDERS[items[0]] else "0")
    return " ".join(words)


def letter_added(reader):
    """The first letter with which the word being told is a name that may be bound."""
    bound = reader.bound_so_far()
    names = [reader.word + letter for letter in LETTERS]
    return [name for name in names if is_name(name) and name not in bound][0][-1]
