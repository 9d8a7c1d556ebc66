"""Texts written of expressions: in one row, and laid into rows of a width."""

from returnsdue.shapes import BINDERS, PARTS

INDENT = 2


def head_of(expression):
    """The head that stands behind the bracket of an expression."""
    return expression[1] if expression[0] == "work" else expression[0]


def items_of(expression):
    """The names and parts of an expression in their order."""
    return expression[2:] if expression[0] == "work" else expression[1:]


def is_plain(expression):
    """Whether an expression is written as one word."""
    return expression[0] == "name" or expression[0] == "number"


def written(expression):
    """The text of an expression."""
    if is_plain(expression):
        return str(expression[1])
    words = [item if isinstance(item, str) else written(item) for item in items_of(expression)]
    return "(" + " ".join([head_of(expression), *words]) + ")"


def rows_laid(expression, blanks, closing, width):
    """The rows of an expression behind so many blanks, and ahead of so many brackets in its last row."""
    row = " " * blanks + written(expression)
    if is_plain(expression) or len(row) + closing <= width:
        return [row]
    word = expression[0]
    names = [expression[at] for at in BINDERS[word]]
    ahead = [] if word == "open" else names
    rows = [" " * blanks + "(" + " ".join([head_of(expression), *ahead])]
    last = PARTS[word][-1]
    for at in PARTS[word]:
        if word == "open" and at == last:
            rows.append(" " * (blanks + INDENT) + " ".join(names))
        rows.extend(rows_laid(expression[at], blanks + INDENT, closing + 1 if at == last else 0, width))
    rows[-1] += ")"
    return rows
