"""Texts of expressions: written, read, completed, and laid into rows."""

from returnsdue.completing import next_signs
from returnsdue.errors import BadNames, BadText, BadWidth
from returnsdue.reading import SIGNS, Reader
from returnsdue.terms import check_expression, is_name
from returnsdue.wholes import is_natural
from returnsdue.writing import rows_laid, written

MOST_WIDTH = 200


def text(expression):
    """The text of an expression."""
    check_expression(expression)
    return written(expression)


def check_names(names):
    """Refuse what is no list of names."""
    if not isinstance(names, (list, tuple)):
        raise BadNames("this is no list")
    for name in names:
        if not is_name(name):
            raise BadNames("something in the list is no name")


def begun(signs, names):
    """The reader that has read these signs; refused at the first one behind which nothing goes on."""
    if not isinstance(signs, str):
        raise BadText(None)
    check_names(names)
    reader = Reader(names)
    for at, sign in enumerate(signs):
        if not reader.takes(sign):
            raise BadText(at)
        reader.take(sign)
    return reader


def read(text, names=()):
    """The expression whose words and brackets a text has."""
    reader = begun(text, names)
    if not reader.is_right():
        raise BadText(len(text))
    reader.end_word()
    return reader.whole


def offers(text, names=()):
    """The ascending list of the signs that may stand behind a beginning."""
    reader = begun(text, names)
    return [sign for sign in SIGNS if reader.takes(sign)]


def completed(text, names=()):
    """The shortest right text that begins with a text."""
    reader = begun(text, names)
    made = text
    while not reader.is_right():
        signs = next_signs(reader)
        for sign in signs:
            reader.take(sign)
        made += signs
    return made


def laid(expression, width):
    """The text of an expression laid into rows of a width."""
    check_expression(expression)
    if not is_natural(width) or not 1 <= width <= MOST_WIDTH:
        raise BadWidth("width is no whole from 1 to 200")
    return "\n".join(rows_laid(expression, 0, 0, width))
