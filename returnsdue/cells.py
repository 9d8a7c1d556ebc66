"""Cells of frames that lie on one another, as several piles share them.

A cell is a triple (birth, frame, cell below), or None where nothing lies.
"""

from returnsdue.errors import BadFrame, BadMark
from returnsdue.wholes import is_natural


def check_frame(frame):
    """Refuse None as a frame."""
    if frame is None:
        raise BadFrame("None is no frame")


def check_mark(mark, marks):
    """Refuse what is no mark of a pile that has these."""
    if not is_natural(mark) or mark >= len(marks):
        raise BadMark("the pile has no such mark")


def births_below(cell):
    """The births of a cell and of all below it, from the top down."""
    births = []
    while cell is not None:
        births.append(cell[0])
        cell = cell[2]
    return births


def cells_under(tops):
    """A dict from births to the cells that lie under any of these tops, themselves among them."""
    found = {}
    for top in tops:
        cell = top
        while cell is not None and cell[0] not in found:
            found[cell[0]] = cell
            cell = cell[2]
    return found


def frame_under(tops, birth):
    """The frame with this birth under any of these tops; None without one, for any value."""
    if not is_natural(birth):
        return None
    cell = cells_under(tops).get(birth)
    return None if cell is None else cell[1]
