"""What is used in a run of code, and when: functions, pairs, kept places, and frames given a worth."""

from returnsdue.coderunner import CodeRunner
from returnsdue.rowpile import Rows


def thing_ahead(runner):
    """The birth of the thing that the next step of a run of code uses, None if it uses none."""
    if runner.ended is not None:
        return None
    word = runner.rows[runner.place][0]
    if word == "open":
        return runner.stack[-1][1]
    return runner.stack[-2][1] if word in ("call", "last") else None


class Uses:
    """A run of code with what it uses.

    taken and used are pairs (moment, birth), of frames and of things, in the order of time; born
    tells, moment by moment, how many frames have been put up and how many things made.
    """

    def __init__(self, code):
        self.runner = CodeRunner(code, Rows())
        self.taken = []
        self.used = []
        self.born = []
        self.note_born()

    def note_born(self):
        """Note how many frames and things there have been by this moment."""
        self.born.append((len(self.runner.pile.given), self.runner.things_made))

    def lead_on(self, moment):
        """Lead the run to a moment, or to its end if that comes first."""
        while self.runner.moment < moment and self.runner.ended is None:
            used = thing_ahead(self.runner)
            self.runner.step()
            if used is not None:
                self.used.append((self.runner.moment, used))
            popped = self.runner.pile.popped[len(self.taken):]
            self.taken.extend([(self.runner.moment, birth) for birth in popped])
            self.note_born()

    def moments_born(self, at):
        """By births, the moments at which frames were put up (at 0), or things made (at 1)."""
        moments = []
        for moment, many in enumerate(self.born):
            moments.extend([moment] * (many[at] - len(moments)))
        return moments
