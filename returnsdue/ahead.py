"""What is still to come in a run: returns to frames and uses of things."""

from returnsdue.demandtable import Demands
from returnsdue.errors import BadMoment, NoBill
from returnsdue.fitting import fitted_program
from returnsdue.stepper import FIRST_FRAMES, SECOND_FRAMES
from returnsdue.terms import check_program
from returnsdue.tracing import MOST_TRACED, traced
from returnsdue.trees import all_trees
from returnsdue.wholes import is_natural


def finished(program):
    """The traced run of a program that comes to a good end; refused if it does not."""
    runner = traced(program)
    if runner.ended == ("stuck",):
        raise NoBill("the run of the program is stuck")
    return runner


def totals(events, many):
    """How often each birth below many has an event."""
    total = [0] * many
    for _, birth in events:
        total[birth] += 1
    return total


def tallies(program):
    """The frames and things of a run with the numbers of their returns and uses."""
    check_program(program)
    runner = finished(program)
    returns = totals(runner.trail.taken, len(runner.frames))
    uses = totals(runner.trail.used, len(runner.things))
    frames = [(row[1].path, row[0], many) for row, many in zip(runner.frames, returns)]
    things = [(row[1].path, many) for row, many in zip(runner.things, uses)]
    return (tuple(frames), tuple(things))


def finished_with(program, moment):
    """As finished, refused also if its run has no such moment."""
    check_program(program)
    if not is_natural(moment) or moment > MOST_TRACED:
        raise BadMoment("this is no whole from 0 to 400")
    runner = finished(program)
    if runner.moment < moment:
        raise BadMoment("the run has fewer steps")
    return runner


def still_to_come(events, moment, many):
    """By births below many, how many events are still to come at a moment."""
    due = {birth: 0 for birth in range(many)}
    for at, birth in events:
        if at > moment and birth in due:
            due[birth] += 1
    return due


def returns_due(program, moment):
    """How many returns the frames put up by a moment will still get."""
    runner = finished_with(program, moment)
    frames, _ = runner.trail.born[moment]
    return still_to_come(runner.trail.taken, moment, frames)


def dues_from(program, moment):
    """By births, how many returns all frames of a run get from a moment on."""
    runner = finished(program)
    return list(still_to_come(runner.trail.taken, moment, len(runner.frames)).values())


def uses_due(program, moment):
    """How many uses the things made by a moment will still have."""
    runner = finished_with(program, moment)
    _, things = runner.trail.born[moment]
    return still_to_come(runner.trail.used, moment, things)


def least_held(program):
    """Moment by moment, how many frames have returns due, and how many things have uses due."""
    check_program(program)
    trail = finished(program).trail
    rows = []
    for moment, (frames, things) in enumerate(trail.born):
        returns = still_to_come(trail.taken, moment, frames)
        uses = still_to_come(trail.used, moment, things)
        rows.append((many_due(returns), many_due(uses)))
    return tuple(rows)


def many_due(due):
    """How many births have something due."""
    return len([birth for birth in due if due[birth] > 0])


def copying(program):
    """The returns to frames that are not the last ones to them, in the order of time."""
    check_program(program)
    taken = finished(program).trail.taken
    last = {birth: at for at, (_, birth) in enumerate(taken)}
    return tuple([event for at, event in enumerate(taken) if last[event[1]] != at])


def told_ahead(program, value):
    """The frames and things of a run with their returns and uses, told by its bill alone."""
    check_program(program)
    table = Demands()
    tree = fitted_program(table, program, value)
    if tree is None:
        raise NoBill("this is no bill of the program")
    frames = []
    things = []
    for part in all_trees(tree):
        frames.extend(frames_of(part))
        things.extend(things_of(table, part))
    return (sorted(frames), sorted(things))


def frames_of(tree):
    """The frames that a tree puts up itself: one, and where it has a second one, one for each row."""
    if tree.word not in FIRST_FRAMES:
        return []
    path = tree.node.path
    kind, _ = FIRST_FRAMES[tree.word]
    found = [(path, kind, tree.trees[0].many)]
    if kind in SECOND_FRAMES:
        second, _ = SECOND_FRAMES[kind]
        found.extend([(path, second, inner.many) for inner in tree.last()])
    return found


def things_of(table, tree):
    """The things that a tree makes itself."""
    path = tree.node.path
    if tree.word in ("fun", "def"):
        kids = [kid for kid in tree.trees[:len(tree.marks)] if kid is not None]
        return [(path, len(kids))]
    if tree.word == "keep":
        return [(path, tree.marks)]
    if tree.word == "pair":
        return [(path, len([use for use in uses if table.rows[use][0] == "open"])) for uses in tree.returns]
    return []
