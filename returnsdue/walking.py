"""Bills gone through in the order of time: their lines, and the returns that they tell for frames."""

from returnsdue.demandtable import Demands
from returnsdue.errors import NoBill
from returnsdue.fitting import fitted_program
from returnsdue.laying import Laid
from returnsdue.ledger import ledger_of
from returnsdue.stepper import FIRST_FRAMES, SECOND_FRAMES
from returnsdue.terms import check_program


def laid_beside(program, value):
    """A bill of a program laid beside its run; any other value is refused."""
    check_program(program)
    tree = fitted_program(Demands(), program, value)
    if tree is None:
        raise NoBill("this is no bill of the program")
    return Laid(ledger_of(program), tree)


def in_time(program, value):
    """The lines of a bill in the order in which they are done."""
    lines = laid_beside(program, value).lines
    return tuple([lines[row] for row in sorted(lines)])


def dues(program, value):
    """By births, how many returns a bill tells for the frames.

    The first frame of a node waits for the first tree, the second one for the tree of a row.
    """
    laid = laid_beside(program, value)
    runner = laid.ledger.runner
    found = []
    for row, (word, what, _) in enumerate(runner.trail.log):
        if word == "begin" and what.word in FIRST_FRAMES:
            found.append(laid.trees[row].trees[0].many)
        elif word == "give" and what is not None and runner.frame_of(what)[0] in SECOND_FRAMES:
            found.append(laid.trees[row + 1].many)
    return tuple(found)
