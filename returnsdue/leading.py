"""The machines by which a session is led, each under its word."""

from returnsdue.codemachine import CodeMachine
from returnsdue.compiler import compiled
from returnsdue.errors import BadWord
from returnsdue.machines import Machine
from returnsdue.stepper import Runner
from returnsdue.telling import step_ahead, told_state

PLAIN = "plain"
CODE = "code"
LEADERS = (PLAIN, "copied", "shared", "split", "led", CODE)


class PlainMachine:
    """The run of a program by itself; what it holds are the frames that can be reached."""

    def __init__(self, program):
        self.runner = Runner(program)
        self.moment = 0

    def step(self):
        """Do the next step; whether there was one."""
        was_done = self.runner.step()
        self.moment = self.runner.moment
        return was_done

    def ahead(self):
        """The kind of the next step and the path of its node, None at the end."""
        return step_ahead(self.runner)

    def end(self):
        """None ahead of the end, otherwise how the run has ended."""
        return self.runner.ended

    def shown(self):
        """The list of what has been shown."""
        return list(self.runner.numbers)

    def state(self):
        """The state at this moment."""
        return told_state(self.runner)

    def held(self):
        """The births of the frames that can be reached."""
        _, _, frames, _, _ = self.state()
        return list(frames)


def leader(program, word):
    """The machine with this word, at the beginning of the run of a program; refused if there is none."""
    if not isinstance(word, str) or word not in LEADERS:
        raise BadWord("this is no word of a machine")
    if word == PLAIN:
        return PlainMachine(program)
    if word == CODE:
        return CodeMachine(compiled(program))
    return Machine(program, word)


def kind_ahead(machine):
    """The kind of the next step of a machine, None at the end."""
    ahead = machine.ahead()
    return ahead if ahead is None or isinstance(ahead, str) else ahead[0]
