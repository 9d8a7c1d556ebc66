"""Runs led to their end, or behind their first 400 steps, with a trail."""

from returnsdue.errors import TooMany
from returnsdue.stepper import Runner, Trail

MOST_TRACED = 400


def trailed(program):
    """The run of a program behind at most its first 400 steps, with its trail."""
    runner = Runner(program, Trail())
    while runner.moment < MOST_TRACED and runner.step():
        pass
    return runner


def check_over(runner):
    """Refuse a run that has more than 400 steps."""
    if runner.ended is None:
        raise TooMany(MOST_TRACED)


def traced(program):
    """The run of a program behind its last step, with its trail; refused if it has more than 400."""
    runner = trailed(program)
    check_over(runner)
    return runner
