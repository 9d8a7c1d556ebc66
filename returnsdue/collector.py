"""Runs of code in which a collector lets go, walk by walk, of what cannot be reached any more."""

from returnsdue.checks import check_most
from returnsdue.coderunner import CodeRunner
from returnsdue.errors import BadPlan
from returnsdue.loader import check_fitting
from returnsdue.rowpile import Rows
from returnsdue.store import held_at_first, held_by
from returnsdue.wholes import is_natural

MOST_IN_PLAN = 1000


class Collector:
    """A collector of a run over a pile of rows.

    During a walk, waiting are the references left to be looked through, met those met so far, and
    begun_at is the moment at which it began, frames_made and things_made what was made by then.
    walks are those that have ended.
    """

    def __init__(self, runner):
        self.runner = runner
        self.is_walking = False
        self.waiting = []
        self.met = {}
        self.begun_at = 0
        self.frames_made = 0
        self.things_made = 0
        self.walks = []

    def take_turn(self):
        """Begin a walk, look one frame or thing through, or end the walk."""
        if not self.is_walking:
            self.begin_walk()
        elif self.waiting:
            word, birth = self.waiting.pop()
            self.meet(held_by(self.runner, word, birth))
        else:
            self.end_walk()

    def begin_walk(self):
        """Begin a walk."""
        self.is_walking = True
        self.met = {}
        self.begun_at = self.runner.moment
        self.frames_made = len(self.runner.pile.given)
        self.things_made = self.runner.things_made
        self.meet(held_at_first(self.runner))

    def meet(self, references):
        """Leave what was not yet met in this walk to be looked through."""
        for reference in references:
            if reference not in self.met:
                self.met[reference] = True
                self.waiting.append(reference)

    def end_walk(self):
        """End the walk: what was made ahead of it and was not met is let go."""
        self.is_walking = False
        frames = self.let_go("frame", self.runner.pile.rows, self.frames_made)
        things = self.let_go("thing", self.runner.things, self.things_made)
        self.walks.append((self.begun_at, self.runner.moment, frames, things))

    def let_go(self, word, rows, made):
        """Take the rows away that were made below a birth and were not met; their births."""
        unmet = [birth for birth in rows if birth < made and (word, birth) not in self.met]
        for birth in unmet:
            del rows[birth]
        return tuple(unmet)


def check_plan(plan):
    """Refuse what is no list of one to 1000 wholes from 0 to 1000."""
    if not isinstance(plan, (list, tuple)) or not 1 <= len(plan) <= MOST_IN_PLAN:
        raise BadPlan("this is no list of one to 1000 items")
    for many in plan:
        if not is_natural(many) or many > MOST_IN_PLAN:
            raise BadPlan("a plan has an item that is no whole from 0 to 1000")


def run_kept(code, most, plan):
    """As run_code, with the walks of a collector that takes turns by a plan behind each step."""
    check_fitting(code)
    check_most(most)
    check_plan(plan)
    runner = CodeRunner(code, Rows())
    collector = Collector(runner)
    while runner.moment < most and runner.step():
        for _ in range(plan[(runner.moment - 1) % len(plan)]):
            collector.take_turn()
    return (*runner.told(), collector.walks)
