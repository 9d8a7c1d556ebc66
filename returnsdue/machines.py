"""Machines: runs of a program whose frames lie on a pile of one of the four kinds."""

from returnsdue.ahead import dues_from
from returnsdue.errors import BadWord
from returnsdue.pilerunner import PileRunner
from returnsdue.telling import step_ahead, told_state
from returnsdue.terms import check_program
from returnsdue.turning import TURNING, Lying, new_pile, turned


class Machine:
    """A run of a program over a pile; without has the births of waiting frames that it cannot hold any more."""

    def __init__(self, program, word):
        check_program(program)
        dues = dues_for(program, word, 0)
        self.program = program
        self.word = word
        self.without = {}
        self.runner = PileRunner(program, new_pile(word, dues))
        self.moment = 0
        self.copied = 0

    def step(self):
        """Do the next step; whether there was one."""
        was_done = self.runner.step()
        self.moment = self.runner.moment
        self.copied = self.runner.pile.copied
        return was_done

    def ahead(self):
        """The kind of the next step and the path of its node, None at the end."""
        return step_ahead(self.runner)

    def end(self):
        """None ahead of the end, otherwise how the run has ended."""
        return self.runner.ended

    def shown(self):
        """The list of what has been shown."""
        return list(self.runner.numbers)

    def births(self):
        """The births of the frames that wait, from the top down."""
        return self.runner.pile.births()

    def held(self):
        """The births of the frames that the pile holds, each as often as it holds it."""
        return [birth for birth in self.runner.pile.held() if birth not in self.without]

    def state(self):
        """The state at this moment, without the frames that are not held and what only they reach."""
        return told_state(self.runner)

    def turn(self, word):
        """Let the frames lie on a pile of another kind from now on."""
        dues = dues_for(self.program, word, self.moment)
        lying = Lying(self.runner.pile)
        self.without = lying.lost()
        self.runner.pile = turned(lying, word, dues)
        self.word = word


def dues_for(program, word, moment):
    """The returns that a led pile has left at a moment, by births; what is no word of a pile is refused."""
    if not isinstance(word, str) or word not in TURNING:
        raise BadWord("this is no word of a machine")
    return dues_from(program, moment) if word == "led" else []
