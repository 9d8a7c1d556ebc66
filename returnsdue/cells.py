"""Cells of frames that lie on one another, as several piles share them.

A cell is a triple (birth, frame, cell below), or None where nothing lies.
"""

from returnsdue.errors import BadFrame, BadMark
from returnsdue.wholes import is_natural


def check_frame(frame):
    """Refuse None as a frame."""
    if frame is None:
        raise BadFrame("None is no frame")


def check_mark(mark, marks):
    """Refuse what is no mark of a pile that has these."""
    if not is_natural(mark) or mark >= len(marks):
        raise BadMark("the pile has no such mark")


def births_below(cell):
    """The births of a cell and of all below it, from the top down."""
    births = []
    while cell is not None:
        births.append(cell[0])
        cell = cell[2]
    return births


def cells_under(tops):
    """A dict from births to the cells that lie under any of these tops, themselves among them."""
    found = {}
    for top in tops:
        cell = top
        while cell is not None and cell[0] not in found:
            found[cell[0]] = cell
            cell = cell[2]
    return found


def frame_under(tops, birth):
    """The frame with this birth under any of these tops; None without one, for any value of birth.

    Births fall from each cell to the one below, so nothing lies deeper than where they get lower.
    """
    if not is_natural(birth):
        return None
    seen = {}
    for top in tops:
        cell = top
        while cell is not None and cell[0] > birth and cell[0] not in seen:
            seen[cell[0]] = True
            cell = cell[2]
        if cell is not None and cell[0] == birth:
            return cell[1]
    return None


def frame_in(row, birth):
    """The frame with this birth in a row of pairs of births, which rise, and frames; None without one."""
    for other, frame in reversed(row):
        if other <= birth:
            return frame if other == birth else None
    return None
