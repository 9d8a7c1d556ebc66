"""Runs of code: what they show, how they end, their steps, and how often frames are given a worth."""

from returnsdue.checks import check_most
from returnsdue.coderunner import CodeRunner
from returnsdue.counts import counted
from returnsdue.errors import BadPile
from returnsdue.loader import check_fitting
from returnsdue.piles import Copied, Led, Shared, Split
from returnsdue.rowpile import Rows


class CodeMachine:
    """A run of a code that goes step by step."""

    def __init__(self, code):
        check_fitting(code)
        self.runner = CodeRunner(code, Shared())
        self.moment = 0

    def ahead(self):
        """The kind of the next step, None if the run has ended or is stuck."""
        return self.runner.ahead_kind()

    def step(self):
        """Do the next step; whether there was one."""
        was_done = self.runner.step()
        self.moment = self.runner.moment
        return was_done

    def shown(self):
        """The tuple of what was shown."""
        return tuple(self.runner.numbers)

    def end(self):
        """None while a step is ahead, otherwise how the run has ended."""
        return self.runner.ended

    def counts(self):
        """The counts of the steps done."""
        return counted(self.runner.kinds)


def started_code(code, most, pile):
    """The run of a code over a pile behind at most the first most steps."""
    check_fitting(code)
    check_most(most)
    return led_on(code, most, pile)


def led_on(code, most, pile):
    """As started_code, of what is known to be right."""
    runner = CodeRunner(code, pile)
    while runner.moment < most and runner.step():
        pass
    return runner


def run_code(code, most):
    """What a run of a code shows, how it ends, and the counts of its steps."""
    return started_code(code, most, Shared()).told()


def code_steps(code, most):
    """The kinds of the steps of a run of a code, at most the first most."""
    return tuple(started_code(code, most, Shared()).kinds)


def run_over(code, most, pile):
    """As run_code, of the run with its frames on this pile."""
    check_fitting(code)
    check_most(most)
    if not isinstance(pile, (Copied, Shared, Split, Led)):
        raise BadPile("this is no pile")
    return led_on(code, most, pile).told()


def returned(code, most):
    """How often each frame put up, in the order of births, was given a worth."""
    pile = Rows()
    started_code(code, most, pile)
    return list(pile.given)
