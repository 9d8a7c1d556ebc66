"""Runs of a program in which frames and things are let go, or frames can take only so many worths.

Up to the step at which something is missed such a run is the plain one. So the plain run is led
one step farther than asked for, and what it takes and uses is looked through in the order of time.
"""

from returnsdue.checks import check_most, is_gift
from returnsdue.counts import counted
from returnsdue.errors import BadDues, BadGifts
from returnsdue.stepper import Runner, Trail
from returnsdue.terms import check_program
from returnsdue.wholes import is_natural


def check_gifts(gifts):
    """Refuse what is no list of triples."""
    if not isinstance(gifts, (list, tuple)):
        raise BadGifts("this is no list")
    for gift in gifts:
        if not is_gift(gift):
            raise BadGifts("something in the list is no triple of a moment, a word and a birth")


def check_dues(dues):
    """Refuse what is no list of wholes from 0 on."""
    if not isinstance(dues, (list, tuple)):
        raise BadDues("this is no list")
    for due in dues:
        if not is_natural(due):
            raise BadDues("something in the list is no whole from 0 on")


def led_beyond(program, most):
    """The run of a program behind one step more than most, with its trail."""
    runner = Runner(program, Trail())
    while runner.moment <= most and runner.step():
        pass
    return runner


def told_up_to(runner, moment, end):
    """What a run has shown by a moment, this end, and the counts of its steps by then."""
    kinds = runner.kinds[:moment]
    counts = counted(kinds)
    return (tuple(runner.numbers[:counts["show"]]), end, counts)


def told_plainly(runner, most):
    """As told_up_to, of a run in which nothing is missed within most steps."""
    return told_up_to(runner, most, runner.ended if runner.moment <= most else ("more",))


def events_of(runner):
    """What a run takes and uses, in the order of time: triples (step, word, birth).

    A step that uses a thing takes first what the frame has to which it belongs; only then the
    worth that comes of it may be taken by another frame.
    """
    used = {step: birth for step, birth in runner.trail.used}
    events = []
    for step, birth in runner.trail.taken:
        events.append((step, "frame", birth))
        if step in used:
            events.append((step, "thing", used[step]))
            del used[step]
    return events


def first_moments(runner, gifts):
    """The first moments at which frames and things are let go, by pairs of a word and a birth."""
    moments = {}
    for moment, word, birth in gifts:
        if moment < len(runner.trail.born):
            frames, things = runner.trail.born[moment]
            if birth < (frames if word == "frame" else things):
                moments[(word, birth)] = min(moment, moments.get((word, birth), moment))
    return moments


def run_letting_go(program, gifts, most):
    """As run, of the run in which some frames and things are let go at some moments."""
    check_program(program)
    check_gifts(gifts)
    check_most(most)
    runner = led_beyond(program, most)
    away = first_moments(runner, gifts)
    for step, word, birth in events_of(runner):
        if (word, birth) in away and away[(word, birth)] < step:
            return told_up_to(runner, step - 1, ("gone", word, birth))
    return told_plainly(runner, most)


def run_with_dues(program, dues, most):
    """As run, of the run in which frames can take only as many worths as dues tell by births."""
    check_program(program)
    check_dues(dues)
    check_most(most)
    runner = led_beyond(program, most)
    left = dict(enumerate(dues))
    for step, birth in runner.trail.taken:
        if left.get(birth, 0) == 0:
            return told_up_to(runner, step - 1, ("gone", "frame", birth))
        left[birth] -= 1
    return told_plainly(runner, most)
