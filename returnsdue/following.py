"""Programs translated into ones without keep, and back, and where the runs of both stand."""

from returnsdue.checks import check_most
from returnsdue.errors import BadFollowing, TooMany
from returnsdue.shapes import PARTS
from returnsdue.stepper import FIRST_FRAMES, SECOND_FRAMES, Runner, Trail
from returnsdue.terms import MOST_NODES, MOST_ROW, check_program, is_program
from returnsdue.translating import brought_back, spare_of, translation_of

# How many steps of the translation's run stand for a step of each kind; a pair takes more than
# what else is of the kind hold.
BLOCKS = {
    "look": 3, "hold": 3, "let": 0, "def": 1, "keep": 3, "open": 2, "choose": 2, "show": 4, "work": 5, "call": 6,
    "enter": 9,
}
BLOCK_OF_PAIR = 5
# The steps at the beginning, and of each follower that is made of its own.
BLOCK_OF_FOLLOWER = 3


def spare(program):
    """The names of the follower and of two worths in the translation of a program."""
    check_program(program)
    return spare_of(program)


def following(program):
    """The translation of a program; refused if it is no program by its size."""
    check_program(program)
    made = translation_of(program)
    nodes, row = size_of(made)
    if nodes > MOST_NODES:
        raise TooMany(MOST_NODES)
    if row > MOST_ROW:
        raise TooMany(MOST_ROW)
    return made


def size_of(e):
    """How many nodes an expression has, and how many its longest row of them."""
    waiting = [(e, 1)]
    nodes = 0
    longest = 0
    while waiting:
        part, row = waiting.pop()
        nodes += 1
        longest = max(longest, row)
        waiting.extend([(part[at], row + 1) for at in PARTS[part[0]]])
    return (nodes, longest)


def back(program):
    """The program whose translation a program is."""
    check_program(program)
    found = brought_back(program)
    if not is_program(found) or translation_of(found) != program:
        raise BadFollowing("this is the translation of no program")
    return found


def moments_following(program, most):
    """How many steps of the translation's run are done behind each of the first steps of a run."""
    check_program(program)
    check_most(most)
    runner = Runner(program, Trail())
    done_by_then = BLOCK_OF_FOLLOWER
    moments = [done_by_then]
    while runner.moment < most and runner.ended is None:
        done_by_then += BLOCK_OF_FOLLOWER * followers_made(runner)
        runner.trail.log.clear()
        is_pair = runner.node is None and runner.frame_of(runner.newest)[0] == "pair2"
        runner.step()
        done_by_then += BLOCK_OF_PAIR if is_pair else BLOCKS[runner.kinds[-1]]
        moments.append(done_by_then)
    return tuple(moments)


def followers_made(runner):
    """For how many rows of the log of a run that is not over the translation's run makes a follower."""
    many = 0
    for word, what, _ in runner.trail.log:
        if word == "begin":
            many += 1 if what.word in FIRST_FRAMES else 0
        elif runner.frame_of(what)[0] in SECOND_FRAMES:
            many += 1
    return many
