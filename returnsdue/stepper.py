"""A run of a program, step by step, with the births of its frames and things.

A worth is ("number", n) or ("thing", birth). Names are a chain of triples (name, worth, chain)
that ends with None; a nearer name hides a farther one. A row of frames is (kind, node, names,
worth, below), one of things ("function", node, names), ("pair", node, worth, worth) or
("kept", node, top).
"""

from returnsdue.nodes import planted
from returnsdue.wholes import worked
from returnsdue.worths import ending_of, is_workable, sort_of

FIRST_FRAMES = {
    "call": ("call1", 1), "let": ("let", 2), "open": ("open", 1), "choose": ("choose", 1),
    "work": ("work1", 2), "show": ("show", 1), "pair": ("pair1", 1),
}
SECOND_FRAMES = {"call1": ("call2", 2), "work1": ("work2", 3), "pair1": ("pair2", 2)}


class Trail:
    """What a run tells of itself: begun expressions and given worths, in the order of time.

    A row of log is ("begin", node, None), or ("give", birth of the frame or None, worth); one of
    taken, or used, is (moment, birth) for a worth taken by a frame, or for a use of a thing; one
    of born tells, moment by moment, how many frames have been put up and how many things made.
    """

    def __init__(self):
        self.log = []
        self.taken = []
        self.used = []
        self.born = []


class Runner:
    """One run; what is no step is done at once. With a trail it tells there what it does."""

    def __init__(self, program, trail=None):
        self.trail = trail
        self.moment = 0
        self.kinds = []
        self.numbers = []
        self.frames = []
        self.things = []
        self.newest = None
        self.node = None
        self.names = None
        self.worth = None
        self.ended = None
        self.begin(planted(program), None)
        self.note_born()

    def begin(self, node, names):
        """Begin a node: put up frames until an expression comes that takes a step."""
        self.note_begun(node)
        while node.word in FIRST_FRAMES:
            kind, at = FIRST_FRAMES[node.word]
            self.put_up(kind, node, names, None)
            node = node.parts[at]
            self.note_begun(node)
        self.node = node
        self.names = names

    def put_up(self, kind, node, names, worth):
        """Put up a frame."""
        self.frames.append((kind, node, names, worth, self.newest))
        self.newest = len(self.frames) - 1

    def frame_of(self, birth):
        """The row of the frame with this birth, None if it is not held."""
        return self.frames[birth]

    def thing_of(self, birth):
        """The row of the thing with this birth, None if it is not held."""
        return self.things[birth]

    def keep_place(self, node):
        """Keep the place with the frames that wait now; its worth."""
        return self.make(("kept", node, self.newest))

    def enter_place(self, birth):
        """Let the frames of the kept place with this birth wait in the place of those that do."""
        self.newest = self.things[birth][2]

    def next_thing(self):
        """The worth of the thing that is made next."""
        return ("thing", len(self.things))

    def make(self, row):
        """Make a thing; its worth."""
        made = self.next_thing()
        self.things.append(row)
        return made

    def meet(self, worth):
        """Look at what has to be there when a worth is given; here all is there."""

    def give(self, worth):
        """Give a worth to the top frame, or end."""
        self.node = None
        self.meet(worth)
        if self.trail is not None:
            self.trail.log.append(("give", self.newest, worth))
        if self.newest is None:
            self.ended = ending_of(worth, self.things)
            return
        kind, node, names, held, _ = self.frame_of(self.newest)
        if kind in SECOND_FRAMES:
            self.take()
            second, at = SECOND_FRAMES[kind]
            self.put_up(second, node, names, worth)
            self.begin(node.parts[at], names)
        elif self.is_taken(kind, node, held, worth):
            self.worth = worth
        else:
            self.ended = ("stuck",)

    def take(self):
        """The top frame, which takes its worth and is taken off."""
        birth = self.newest
        if self.trail is not None:
            self.trail.taken.append((self.moment, birth))
        self.newest = self.frames[birth][4]
        return self.frames[birth]

    def use(self, worth):
        """The thing of a worth, which is used."""
        birth = worth[1]
        if self.trail is not None:
            self.trail.used.append((self.moment, birth))
        return self.things[birth]

    def is_taken(self, kind, node, held, worth):
        """Whether a frame that takes a step can take this worth."""
        if kind == "choose" or kind == "show":
            return worth[0] == "number"
        if kind == "open":
            return sort_of(worth, self.things) == "pair"
        if kind == "call2":
            return sort_of(held, self.things) in ("function", "kept")
        if kind == "work2":
            return is_workable(node.expression[1], held, worth)
        return True

    def step(self):
        """Do the next step; whether there was one."""
        if self.ended is not None:
            return False
        self.moment += 1
        if self.node is not None:
            action = EVALUATED[self.node.word]
        else:
            action = TAKEN[self.frame_of(self.newest)[0]]
        self.kinds.append(action(self))
        self.note_born()
        return True

    def note_begun(self, node):
        """Tell the trail that a node is begun."""
        if self.trail is not None:
            self.trail.log.append(("begin", node, None))

    def note_born(self):
        """Tell the trail how many frames and things there have been by this moment."""
        if self.trail is not None:
            self.trail.born.append((len(self.frames), len(self.things)))


def worth_of(name, names):
    """The worth of a name in a chain of names."""
    while names[0] != name:
        names = names[2]
    return names[1]


def evaluate_name(runner):
    """A name: its worth is given."""
    runner.give(worth_of(runner.node.expression[1], runner.names))
    return "look"


def evaluate_number(runner):
    """A number is given."""
    runner.give(runner.node.expression)
    return "hold"


def evaluate_fun(runner):
    """A function is made and given."""
    runner.give(runner.make(("function", runner.node, runner.names)))
    return "hold"


def evaluate_def(runner):
    """A function is made that has itself, and the last part is begun."""
    node = runner.node
    itself = runner.next_thing()
    names = (node.expression[1], itself, runner.names)
    runner.make(("function", node, names))
    runner.begin(node.parts[4], names)
    return "def"


def evaluate_keep(runner):
    """The place is kept, and the part is begun."""
    node = runner.node
    place = runner.keep_place(node)
    runner.begin(node.parts[2], (node.expression[1], place, runner.names))
    return "keep"


def take_let(runner):
    """The last part is begun where the name has the worth."""
    _, node, names, _, _ = runner.take()
    runner.begin(node.parts[3], (node.expression[1], runner.worth, names))
    return "let"


def take_open(runner):
    """The last part is begun where both names have the parts of the pair."""
    _, node, names, _, _ = runner.take()
    _, _, one, other = runner.use(runner.worth)
    inner = (node.expression[2], one, names)
    runner.begin(node.parts[4], (node.expression[3], other, inner))
    return "open"


def take_choose(runner):
    """The part that the number chooses is begun."""
    _, node, names, _, _ = runner.take()
    runner.begin(node.parts[3 if runner.worth[1] == 0 else 2], names)
    return "choose"


def take_work(runner):
    """What comes of both numbers is given."""
    _, node, _, held, _ = runner.take()
    runner.give(("number", worked(node.expression[1], held[1], runner.worth[1])))
    return "work"


def take_show(runner):
    """The number is shown and given."""
    runner.take()
    runner.numbers.append(runner.worth[1])
    runner.give(runner.worth)
    return "show"


def take_pair(runner):
    """A pair is made and given."""
    _, node, _, held, _ = runner.take()
    runner.give(runner.make(("pair", node, held, runner.worth)))
    return "hold"


def take_call(runner):
    """A function's body is begun, or a kept place is entered."""
    _, _, _, held, _ = runner.take()
    called = runner.use(held)
    if called[0] == "kept":
        runner.enter_place(held[1])
        runner.give(runner.worth)
        return "enter"
    _, node, names = called
    runner.begin(body_of(node), (name_of(node), runner.worth, names))
    return "call"


def name_of(node):
    """The name of the functions that a fun or def makes."""
    return node.expression[1 if node.word == "fun" else 2]


def body_of(node):
    """The body of the functions that a fun or def makes."""
    return node.parts[2 if node.word == "fun" else 3]


EVALUATED = {
    "name": evaluate_name, "number": evaluate_number, "fun": evaluate_fun,
    "def": evaluate_def, "keep": evaluate_keep,
}
TAKEN = {
    "let": take_let, "open": take_open, "choose": take_choose, "work2": take_work,
    "show": take_show, "pair2": take_pair, "call2": take_call,
}
