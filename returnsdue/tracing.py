"""Runs of at most 400 steps, led to their end with a trail."""

from returnsdue.errors import TooMany
from returnsdue.stepper import Runner, Trail

MOST_TRACED = 400


def traced(program):
    """The run of a program behind its last step, with its trail; refused if it has more than 400."""
    runner = Runner(program, Trail())
    while runner.moment < MOST_TRACED and runner.step():
        pass
    if runner.ended is None:
        raise TooMany(MOST_TRACED)
    return runner
