"""Worths of a run: their sorts, how a run ends to which they come, and works of two of them.

A worth is ("number", n) or ("thing", birth). things has the rows of the things by their births;
the first item of a row is the sort of its thing: "function", "pair" or "kept".
"""

from returnsdue.wholes import is_number, worked


def sort_of(worth, things):
    """What a worth is: a number, function, pair or kept place."""
    return "number" if worth[0] == "number" else things[worth[1]][0]


def ending_of(worth, things):
    """How a run ends to which this worth comes."""
    return worth if worth[0] == "number" else (sort_of(worth, things),)


def is_workable(word, one, other):
    """Whether both worths are numbers, and what comes of them has at most 30 digits."""
    return one[0] == other[0] == "number" and is_number(worked(word, one[1], other[1]))
