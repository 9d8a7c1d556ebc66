"""What a run of code holds at a moment: its running, its frames and its things, and who holds them.

What holds something is told by a list of references: ("frame", birth) or ("thing", birth), one for
each place in which it stands.
"""

from returnsdue.checks import MOST_STEPS
from returnsdue.coderunner import CodeRunner
from returnsdue.errors import BadMoment
from returnsdue.loader import check_fitting
from returnsdue.rowpile import Rows
from returnsdue.wholes import is_natural


def run_at(code, moment):
    """The run of a code at a moment, over a pile of rows."""
    check_fitting(code)
    if not is_natural(moment) or moment > MOST_STEPS:
        raise BadMoment("this is no moment of a run")
    runner = CodeRunner(code, Rows())
    while runner.moment < moment and runner.step():
        pass
    if runner.moment < moment:
        raise BadMoment("the run has fewer steps")
    return runner


def birth_of(worth):
    """The birth of a thing's worth, None for None."""
    return None if worth is None else worth[1]


def told_running(runner):
    """What runs: block, place, slots, pile and function; or the end and the worth to which it came."""
    if runner.final is not None:
        return ("end", runner.final)
    slots = tuple(sorted(runner.slots.items()))
    return (runner.block, runner.place, slots, tuple(runner.stack), birth_of(runner.function))


def told_frame_row(pile, birth):
    """A frame: block, place, slots, pile, function and the frame below."""
    (block, place, slots, worths, function), below = pile.rows[birth]
    return (block, place, tuple(sorted(slots.items())), worths, birth_of(function), below)


def told_thing_row(runner, birth):
    """A thing as store tells it: a kept place by its top frame."""
    row = runner.things[birth]
    return ("kept", runner.pile.marks[row[1]]) if row[0] == "kept" else row


def held_by_running(running):
    """The references of what runs."""
    if running[0] == "end":
        return things_among([running[1]])
    _, _, slots, worths, function = running
    return things_among([worth for _, worth in slots]) + things_among(worths) + reference("thing", function)


def held_by_frame(row):
    """The references of a frame."""
    return held_by_running(row[:5]) + reference("frame", row[5])


def held_by_thing(row):
    """The references of a thing."""
    if row[0] == "kept":
        return reference("frame", row[1])
    return things_among(row[2] if row[0] == "function" else row[1:])


def things_among(worths):
    """The references of these worths: those that are things."""
    return [worth for worth in worths if worth[0] == "thing"]


def reference(word, birth):
    """The references of one birth; none of None."""
    return [] if birth is None else [(word, birth)]


def held_at_first(runner):
    """The references of what runs, and of the top."""
    return held_by_running(told_running(runner)) + reference("frame", runner.pile.newest)


def held_by(runner, word, birth):
    """The references of the frame, or thing, with this birth."""
    if word == "frame":
        return held_by_frame(told_frame_row(runner.pile, birth))
    return held_by_thing(told_thing_row(runner, birth))


def holders_at(runner):
    """The dicts of the frames and things that can be reached, with how many places hold each."""
    many = {"frame": {}, "thing": {}}
    waiting = held_at_first(runner)
    while waiting:
        word, birth = waiting.pop()
        if birth not in many[word]:
            many[word][birth] = 0
            waiting.extend(held_by(runner, word, birth))
        many[word][birth] += 1
    return (many["frame"], many["thing"])


def store(code, moment):
    """What runs at a moment, the top frame, and all frames and things so far."""
    runner = run_at(code, moment)
    frames = {birth: told_frame_row(runner.pile, birth) for birth in runner.pile.rows}
    things = {birth: told_thing_row(runner, birth) for birth in runner.things}
    return (told_running(runner), runner.pile.newest, frames, things)


def reach(code, moment):
    """The births of the frames and of the things that can be reached at a moment."""
    frames, things = holders_at(run_at(code, moment))
    return (tuple(sorted(frames)), tuple(sorted(things)))


def holders(code, moment):
    """How many places hold each frame and each thing that is held at a moment.

    What is held by nobody holds nothing any more. As all is held by what was made later, or runs,
    that leaves just what can be reached; so it is counted on the way to it.
    """
    frames, things = holders_at(run_at(code, moment))
    return tuple([{birth: many[birth] for birth in sorted(many)} for many in (frames, things)])
