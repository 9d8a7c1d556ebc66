"""Which steps return to a frame or enter a kept place, and why a frame is still needed.

A step has the number of the moment to which it leads.
"""

from returnsdue.errors import BadBirth, BadMoment
from returnsdue.terms import check_program
from returnsdue.tracing import check_over, traced, trailed
from returnsdue.wholes import is_natural, is_whole


def returns(program):
    """The pairs of the number of a step and the birth of a frame, one for each return."""
    check_program(program)
    return tuple(traced(program).trail.taken)


def entries(program):
    """The triples of the number of a step, the kept place that it enters, and the step that kept it."""
    check_program(program)
    return entries_told(traced(program))


def entries_told(runner):
    """The entries of a run."""
    made = steps_of_things(runner)
    places = [event for event in runner.trail.used if runner.things[event[1]][0] == "kept"]
    return tuple([(step, place, made[place]) for step, place in places])


def steps_of_things(runner):
    """By births, the number of the step that made each thing."""
    made = []
    for moment, (_, things) in enumerate(runner.trail.born):
        made.extend([moment] * (things - len(made)))
    return made


def trailed_to(program, moment):
    """The run of a program behind at most its first 400 steps; refused without this moment."""
    check_program(program)
    runner = trailed(program)
    if not is_natural(moment) or moment > runner.moment:
        raise BadMoment("this is no moment of the run")
    return runner


def with_frame(program, moment, birth):
    """The whole run of a program in which the frame with this birth is put up by a moment."""
    runner = trailed_to(program, moment)
    frames, _ = runner.trail.born[moment]
    if not is_natural(birth) or birth >= frames:
        raise BadBirth("no frame has this birth by then")
    check_over(runner)
    return runner


def steps_behind(events, moment, birth):
    """The moments, above one, of the events of a birth."""
    return tuple([at for at, other in events if at > moment and other == birth])


def returns_to(program, moment, birth):
    """The numbers of the steps above a moment that return to a frame."""
    runner = with_frame(program, moment, birth)
    return steps_behind(runner.trail.taken, moment, birth)


def entries_of(program, moment, place):
    """The numbers of the steps above a moment that enter a kept place."""
    runner = trailed_to(program, moment)
    _, things = runner.trail.born[moment]
    if not is_natural(place) or place >= things or runner.things[place][0] != "kept":
        raise BadBirth("no kept place has this birth by then")
    check_over(runner)
    return steps_behind(runner.trail.used, moment, place)


def roads(program, moment, birth):
    """Why a frame is still needed at a moment: for each of its returns the places that lead there."""
    runner = with_frame(program, moment, birth)
    found = entries_told(runner)
    is_second = runner.frames[birth][0] == "call2"
    steps = steps_behind(runner.trail.taken, moment, birth)
    return tuple([(hops_to(found, moment, step if is_second else step + 1), step) for step in steps])


def hops_to(found, moment, below):
    """The pairs (kept, entered) through which frames that wait below a step have come from a moment.

    They are found from the last one back: the frames that wait behind an entry are those that
    waited when its place was kept.
    """
    hops = []
    while below > moment:
        ahead = [(kept, entered) for entered, _, kept in found if moment < entered < below]
        if not ahead:
            break
        hops.append(ahead[-1])
        below = ahead[-1][0]
    return tuple(reversed(hops))


def is_hop(value):
    """Whether value is a pair of wholes."""
    return isinstance(value, tuple) and len(value) == 2 and is_whole(value[0]) and is_whole(value[1])


def is_like_road(value):
    """Whether value is built as roads are."""
    if not isinstance(value, tuple) or len(value) != 2 or not isinstance(value[0], tuple):
        return False
    for hop in value[0]:
        if not is_hop(hop):
            return False
    return is_whole(value[1])


def is_road(program, moment, birth, value):
    """Whether any value is a road to a frame from a moment."""
    found = roads(program, moment, birth)
    return is_like_road(value) and value in found
