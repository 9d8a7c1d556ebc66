"""What a run of code holds for nothing: what is still used in it, and what can be taken away."""

from returnsdue.checks import MOST_STEPS, check_most, is_gift
from returnsdue.coderunner import CodeRunner
from returnsdue.codeuses import Uses, thing_ahead
from returnsdue.errors import BadGone, BadMoment, Gone, NotOver
from returnsdue.loader import check_fitting
from returnsdue.rowpile import Rows
from returnsdue.store import reach
from returnsdue.wholes import is_natural

MOST_GONE = 1000


def uses_over(code, moment, most):
    """The uses of a run that has this moment, and is over within most steps."""
    check_fitting(code)
    if not is_natural(moment) or moment > MOST_STEPS:
        raise BadMoment("this is no moment of a run")
    uses = Uses(code)
    uses.lead_on(moment)
    if uses.runner.moment < moment:
        raise BadMoment("the run has fewer steps")
    check_most(most)
    uses.lead_on(most)
    if uses.runner.ended is None or uses.runner.moment > most:
        raise NotOver("the run is not over within most steps")
    return uses


def due_at(events, moment, many):
    """By births below many, ascending, how many events come behind a moment, those with none aside."""
    due_so_far = {}
    for at, birth in events:
        if at > moment and birth < many:
            due_so_far[birth] = due_so_far.get(birth, 0) + 1
    return {birth: due_so_far[birth] for birth in sorted(due_so_far)}


def due(code, moment, most):
    """The dicts of the frames and of the things that are used behind a moment, and how often."""
    uses = uses_over(code, moment, most)
    frames, things = uses.born[moment]
    return (due_at(uses.taken, moment, frames), due_at(uses.used, moment, things))


def idle(code, moment, most):
    """The frames and the things that can be reached at a moment and are not used behind it."""
    frames_due, things_due = due(code, moment, most)
    frames, things = reach(code, moment)
    return (unused(frames, frames_due), unused(things, things_due))


def unused(births, used):
    """Those of these births that are not among the used ones."""
    return tuple([birth for birth in births if birth not in used])


def least_store(code, most):
    """The most frames, and the most things, that are due at one moment."""
    uses = uses_over(code, 0, most)
    return (most_due(uses, uses.taken, 0), most_due(uses, uses.used, 1))


def most_due(uses, events, at):
    """The most births that are due at one moment: each one from where it is made up to its last event."""
    last = {birth: moment for moment, birth in events}
    born = uses.moments_born(at)
    changes = [0] * len(uses.born)
    for birth in last:
        changes[born[birth]] += 1
        changes[last[birth]] -= 1
    many = 0
    highest = 0
    for change in changes:
        many += change
        highest = max(highest, many)
    return highest


def check_gone(gone):
    """Refuse what is no list of at most 1000 triples."""
    if not isinstance(gone, (list, tuple)) or len(gone) > MOST_GONE:
        raise BadGone("this is no list of at most 1000 triples")
    for gift in gone:
        if not is_gift(gift):
            raise BadGone("something in the list is no triple of a moment, a word and a birth")


def run_without(code, most, gone):
    """As run_code, of the run in which some frames and things are taken away at some moments."""
    check_fitting(code)
    check_most(most)
    check_gone(gone)
    by_moments = {}
    for moment, word, birth in gone:
        by_moments[moment] = [*by_moments.get(moment, []), (word, birth)]
    runner = CodeRunner(code, Rows())
    things_away = {}
    while runner.moment < most and runner.ended is None:
        step_on(runner)
        take_away(runner, by_moments.get(runner.moment, []), things_away)
    return runner.told()


def step_on(runner):
    """Do the next step; a run in which a worth is given to a frame that is away ends behind it."""
    try:
        runner.step()
    except Gone as lost:
        runner.ended = ("gone", lost.word, lost.birth)


def take_away(runner, away, things_away):
    """Take away what is made by now; the run ends if a thing that is away would be used next."""
    for word, birth in away:
        if word == "frame" and birth < len(runner.pile.given):
            runner.pile.away[birth] = True
        if word == "thing" and birth < runner.things_made:
            things_away[birth] = True
    ahead = thing_ahead(runner)
    if ahead in things_away:
        runner.ended = ("gone", "thing", ahead)
