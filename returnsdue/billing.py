"""The bill of a program."""

from returnsdue.errors import TooMany
from returnsdue.ledger import Ledger
from returnsdue.sized import built
from returnsdue.terms import check_program
from returnsdue.tracing import traced

MOST_TUPLES = 20000


def bill(program):
    """The bill of a program; None if its run is stuck."""
    check_program(program)
    runner = traced(program)
    if runner.ended == ("stuck",):
        return None
    found = built([built(runner.ended), Ledger(runner).trees[0]])
    if found.tuples > MOST_TUPLES:
        raise TooMany(MOST_TUPLES)
    return found.value
