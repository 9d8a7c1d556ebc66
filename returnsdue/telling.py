"""What is told of a run at a moment: its control, and all that can be reached from there."""

from returnsdue.stepper import body_of, name_of, worth_of
from returnsdue.worths import sort_of

KINDS_EVALUATED = {"name": "look", "number": "hold", "fun": "hold", "def": "def", "keep": "keep"}
KINDS_TAKEN = {"let": "let", "open": "open", "choose": "choose", "work2": "work", "show": "show", "pair2": "hold"}


def told_names(names, chain):
    """The pairs of these names, which ascend, and their worths in a chain."""
    return tuple([(name, worth_of(name, chain)) for name in names])


def told_control(runner):
    """What the next step is, or how the run ended."""
    if runner.ended is not None:
        return ("end", runner.ended)
    if runner.node is not None:
        return ("at", runner.node.path, told_names(runner.node.free, runner.names))
    return ("with", runner.worth)


def names_waiting(kind, node):
    """The ascending names that are free in what a frame's node has still to evaluate."""
    if kind == "call1" or kind == "pair1":
        return node.free_of(2)
    if kind == "work1" or kind == "let":
        return node.free_of(3)
    if kind == "open":
        return node.free_of(4)
    if kind == "choose":
        return tuple(sorted(set(node.free_of(2) + node.free_of(3))))
    return ()


def step_ahead(runner):
    """The kind of the next step and the path of its node; None if the run is over."""
    if runner.ended is not None:
        return None
    if runner.node is not None:
        return (KINDS_EVALUATED[runner.node.word], runner.node.path)
    kind, node, _, held, _ = runner.frame_of(runner.newest)
    if kind == "call2":
        return ("enter" if sort_of(held, runner.things) == "kept" else "call", node.path)
    return (KINDS_TAKEN[kind], node.path)


def names_of_function(node):
    """The ascending names that are free in the body of the functions of a fun or def, their own aside."""
    return tuple([name for name in body_of(node).free if name != name_of(node)])


def told_frame(row):
    """A row of frames as state tells it."""
    kind, node, names, worth, below = row
    return (kind, node.path, told_names(names_waiting(kind, node), names), worth, below)


def told_thing(row):
    """A row of things as state tells it."""
    if row[0] == "function":
        _, node, names = row
        return ("function", node.path, told_names(names_of_function(node), names))
    if row[0] == "pair":
        return ("pair", row[2], row[3])
    return ("kept", row[2])


def worths_of_names(names):
    """The worths of a tuple of pairs (name, worth)."""
    return [worth for _, worth in names]


def reached_from_control(control):
    """The worths that control tells."""
    if control[0] == "at":
        return worths_of_names(control[2])
    return [control[1]] if control[0] == "with" else []


def reached_from_frame(row):
    """The worths that a told frame has, and the frame below."""
    _, _, names, worth, below = row
    held = [] if worth is None else [worth]
    return worths_of_names(names) + held + [("frame", below)]


def reached_from_thing(row):
    """The worths that a told thing has, and the top frame of a kept place."""
    if row[0] == "function":
        return worths_of_names(row[2])
    if row[0] == "pair":
        return [row[1], row[2]]
    return [("frame", row[1])]


def told_state(runner):
    """The state of a run: control, top, frames, things, shown.

    A frame or thing that the run does not hold is left out, and so is what only it reaches.
    """
    control = told_control(runner)
    frames = {}
    things = {}
    waiting = [("frame", runner.newest)] + reached_from_control(control)
    while waiting:
        word, birth = waiting.pop()
        if word == "frame" and birth is not None and birth not in frames:
            row = runner.frame_of(birth)
            if row is not None:
                frames[birth] = told_frame(row)
                waiting.extend(reached_from_frame(frames[birth]))
        if word == "thing" and birth not in things:
            row = runner.thing_of(birth)
            if row is not None:
                things[birth] = told_thing(row)
                waiting.extend(reached_from_thing(things[birth]))
    return (control, runner.newest, ascending(frames), ascending(things), tuple(runner.numbers))


def ascending(rows):
    """A dict with its keys in ascending order."""
    return {birth: rows[birth] for birth in sorted(rows)}
