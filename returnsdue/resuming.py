"""Runs gone on with from a picture, in which frames and things may be gone."""

from returnsdue.errors import Gone
from returnsdue.nodes import planted
from returnsdue.stepper import Runner


def node_at(root, path):
    """The node to which a path leads."""
    for at in path:
        root = root.parts[at]
    return root


def chain_of(names):
    """The chain of pairs of names and worths."""
    chain = None
    for name, worth in names:
        chain = (name, worth, chain)
    return chain


class Resumed(Runner):
    """A run from the moment of a picture on.

    frames and things are dicts from the births of what is there to rows; frames_met and things_met
    have those that had to be there so far. kinds tell the steps since the moment of the picture.
    """

    def __init__(self, picture):
        program, moment, born, state = picture
        control, top, frames, things, shown = state
        root = planted(program)
        self.program = program
        self.moment = moment
        self.frame_births = born[0]
        self.thing_births = born[1]
        self.newest = top
        self.trail = None
        self.kinds = []
        self.numbers = list(shown)
        self.frames = {birth: frame_read(root, frames[birth]) for birth in frames}
        self.things = {birth: thing_read(root, things[birth]) for birth in things}
        self.frames_met = {}
        self.things_met = {}
        self.node = node_at(root, control[1]) if control[0] == "at" else None
        self.names = chain_of(control[2]) if control[0] == "at" else None
        self.worth = control[1] if control[0] == "with" else None
        self.ended = control[1] if control[0] == "end" else None

    def put_up(self, kind, node, names, worth):
        """Put up a frame."""
        self.frames[self.frame_births] = (kind, node, names, worth, self.newest)
        self.newest = self.frame_births
        self.frame_births += 1

    def frame_of(self, birth):
        """The row of the frame with this birth, None if it is gone."""
        return self.frames.get(birth)

    def thing_of(self, birth):
        """The row of the thing with this birth, None if it is gone."""
        return self.things.get(birth)

    def next_thing(self):
        """The worth of the thing that is made next."""
        return ("thing", self.thing_births)

    def make(self, row):
        """Make a thing; its worth."""
        made = self.next_thing()
        self.things[self.thing_births] = row
        self.thing_births += 1
        return made

    def meet(self, worth):
        """Look at the frame to which a worth is given, and at the thing on which it hangs what that does."""
        if self.newest is None:
            self.meet_thing(worth)
            return
        if self.newest not in self.frames:
            raise Gone("frame", self.newest)
        self.frames_met[self.newest] = True
        kind, _, _, held, _ = self.frames[self.newest]
        if kind == "open":
            self.meet_thing(worth)
        if kind == "call2":
            self.meet_thing(held)

    def meet_thing(self, worth):
        """Look at the thing of a worth; a number is always there."""
        if worth[0] == "thing":
            if worth[1] not in self.things:
                raise Gone("thing", worth[1])
            self.things_met[worth[1]] = True

    def go_further(self, many):
        """Do the next steps, at most so many; a worth that waits counts as given in the first one."""
        last = self.moment + many
        if many > 0 and self.ended is None and self.node is None:
            self.meet(self.worth)
        while self.moment < last and self.step():
            pass


def frame_read(root, row):
    """A row of frames as a run has it."""
    kind, path, names, worth, below = row
    return (kind, node_at(root, path), chain_of(names), worth, below)


def thing_read(root, row):
    """A row of things as a run has it; which node made a pair or place is not told any more."""
    if row[0] == "function":
        return ("function", node_at(root, row[1]), chain_of(row[2]))
    return (row[0], None, *row[1:])
