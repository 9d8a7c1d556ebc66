"""Tellings packed into texts, with one row for each different tuple, and unpacked.

A row may refer only to rows ahead of it, and no two rows are equal. Whatever rows there are that
keep to this, some packed text begins with them: that of the tuple of all their tuples. So only at
the end it is known whether the rows are those of a walk.
"""

from returnsdue.errors import BadRow, BadTelling
from returnsdue.reading import DIGITS, MOST_DIGITS
from returnsdue.terms import LETTERS, MOST_LETTERS
from returnsdue.wholes import is_number

NONE = "-"
REFERENCE = "#"


def is_made_of(text, signs):
    """Whether a string has no signs but these."""
    for sign in text:
        if sign not in signs:
            return False
    return True


def is_word(text):
    """Whether a string is a word of a telling."""
    return 1 <= len(text) <= MOST_LETTERS and is_made_of(text, LETTERS)


def is_plain_telling(value):
    """Whether any value is a telling that is no tuple."""
    if isinstance(value, str):
        return is_word(value)
    return value is None or is_number(value)


def check_telling(value):
    """Refuse what is no tuple that is a telling."""
    if not isinstance(value, tuple):
        raise BadTelling("this is no tuple")
    waiting = [value]
    while waiting:
        for item in waiting.pop():
            if isinstance(item, tuple):
                waiting.append(item)
            elif not is_plain_telling(item):
                raise BadTelling("something in the tuple is no telling")


def plain_item(value):
    """The item that tells a telling that is no tuple."""
    return NONE if value is None else str(value)


def packed(value):
    """The packed text of a tuple that is a telling."""
    check_telling(value)
    numbers = {}
    waiting = [(value, [])]
    while waiting:
        told, items = waiting[-1]
        if len(items) < len(told):
            item = told[len(items)]
            if isinstance(item, tuple):
                waiting.append((item, []))
            else:
                items.append(plain_item(item))
        else:
            waiting.pop()
            row = " ".join(items)
            if row not in numbers:
                numbers[row] = len(numbers) + 1
            if waiting:
                waiting[-1][1].append(REFERENCE + str(numbers[row]))
    return "\n".join(list(numbers))


def is_figure(text):
    """Whether a string is a whole from 0 on by its digits, without zeros ahead of them."""
    if not 1 <= len(text) <= MOST_DIGITS or not is_made_of(text, DIGITS):
        return False
    return text[0] != "0" or text == "0"


def is_item(item, number):
    """Whether a string may be an item of the row with this number."""
    if item.startswith(REFERENCE):
        figure = item[len(REFERENCE):]
        return is_figure(figure) and 1 <= int(figure) < number
    if item == NONE or is_word(item):
        return True
    figure = item[1:] if item.startswith("-") else item
    return is_figure(figure) and item != "-0"


def items_of_row(row):
    """The items of a row."""
    return row.split(" ") if row else []


def check_rows(rows):
    """Refuse the first row behind which no packed text goes on."""
    met = {}
    for at, row in enumerate(rows):
        if row in met:
            raise BadRow(at + 1)
        met[row] = True
        for item in items_of_row(row):
            if not is_item(item, at + 1):
                raise BadRow(at + 1)


def told_item(item, tuples):
    """The telling of an item; tuples are those of the rows ahead."""
    if item == NONE:
        return None
    if item.startswith(REFERENCE):
        return tuples[int(item[len(REFERENCE):]) - 1]
    return item if item[0] in LETTERS else int(item)


def references_of(row):
    """The numbers of the rows to which a row refers."""
    return [int(item[len(REFERENCE):]) for item in items_of_row(row) if item.startswith(REFERENCE)]


def are_of_walk(rows):
    """Whether a walk through the tuple of the last row ends all of them, and in this order."""
    references = [[], *[references_of(row) for row in rows]]
    ended = 0
    waiting = [(len(rows), 0)]
    while waiting:
        number, at = waiting.pop()
        if at < len(references[number]):
            waiting.append((number, at + 1))
            if references[number][at] > ended:
                waiting.append((references[number][at], 0))
        else:
            ended += 1
            if number != ended:
                return False
    return True


def unpacked(text):
    """The tuple that has this packed text."""
    if not isinstance(text, str):
        raise BadRow(None)
    rows = text.split("\n")
    check_rows(rows)
    if not are_of_walk(rows):
        raise BadRow(len(rows) + 1)
    tuples = []
    for row in rows:
        tuples.append(tuple([told_item(item, tuples) for item in items_of_row(row)]))
    return tuples[-1]
