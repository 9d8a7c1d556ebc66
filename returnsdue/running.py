"""Runs of programs: what they show, how they end, their steps, and their states."""

from returnsdue.checks import MOST_STEPS, check_most
from returnsdue.counts import counted
from returnsdue.errors import BadMoment
from returnsdue.stepper import Runner
from returnsdue.telling import told_state
from returnsdue.terms import check_program
from returnsdue.wholes import is_natural


def run_on(runner, moment):
    """Lead a run to a moment, or to its end if that comes first."""
    while runner.moment < moment and runner.step():
        pass


def started(program, most):
    """The run of a program behind at most the first most steps."""
    check_program(program)
    check_most(most)
    runner = Runner(program)
    run_on(runner, most)
    return runner


def run(program, most):
    """What a run shows, how it ends, and the counts of its steps."""
    runner = started(program, most)
    end = ("more",) if runner.ended is None else runner.ended
    return (tuple(runner.numbers), end, counted(runner.kinds))


def steps(program, most):
    """The kinds of the steps of a run, at most the first most."""
    return tuple(started(program, most).kinds)


def led_to(program, moment):
    """The run of a program at a moment; refused if it has no such moment."""
    check_program(program)
    if not is_natural(moment) or moment > MOST_STEPS:
        raise BadMoment("this is no moment of a run")
    runner = Runner(program)
    run_on(runner, moment)
    if runner.moment < moment:
        raise BadMoment("the run has fewer steps")
    return runner


def state(program, moment):
    """The state of a run at a moment: control, top, frames, things, shown."""
    return told_state(led_to(program, moment))
