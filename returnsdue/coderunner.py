"""A run of code that fits, row by row, with the births of its things, over any pile of frames.

A worth is ("number", n) or ("thing", birth). A row of things is ("function", block, worths),
("pair", worth, worth) or ("kept", mark), a mark of the pile. A frame is a tuple (block, place,
slots, worths of its pile, function), slots a dict from slots to worths that nobody changes.
"""

from returnsdue.counts import counted
from returnsdue.wholes import worked
from returnsdue.worths import ending_of, is_workable, sort_of

STEP_KINDS = {
    "number": "hold", "slot": "look", "held": "look", "self": "look", "fun": "hold", "def": "def", "let": "let",
    "open": "open", "choose": "choose", "pair": "hold", "work": "work", "show": "show", "keep": "keep",
    "keeplast": "keep",
}
SORTS_CALLED = {"function": "call", "kept": "enter"}


class CodeRunner:
    """One run; rows that are no steps are done at once.

    What runs is a block, its rows, a place, slots, a stack of worths, and a function, None in
    block 0. When a worth comes with no frame left, final is this worth.
    """

    def __init__(self, code, pile):
        self.code = code
        self.pile = pile
        self.things = {}
        self.things_made = 0
        self.moment = 0
        self.kinds = []
        self.numbers = []
        self.final = None
        self.ended = None
        self.begin(0, {}, None)
        self.go_on()

    def begin(self, block, slots, function):
        """Begin a block."""
        self.resume(block, 0, slots, [], function)

    def resume(self, block, place, slots, stack, function):
        """Go on at a place of a block."""
        self.block = block
        self.rows = self.code[block][2]
        self.place = place
        self.slots = slots
        self.stack = stack
        self.function = function

    def go_on(self):
        """Do rows that are no steps, until a step comes or the run is over."""
        while self.ended is None:
            row = self.rows[self.place]
            if row[0] == "go":
                self.place = row[1]
            elif row[0] == "drop":
                del self.slots[row[1]]
                self.place += 1
            elif row[0] == "return":
                self.give(self.stack[0])
            elif self.is_possible(row):
                return
            else:
                self.ended = ("stuck",)

    def is_possible(self, row):
        """Whether the worths on the pile are such that a row can be done."""
        word = row[0]
        if word == "open":
            return sort_of(self.stack[-1], self.things) == "pair"
        if word == "choose" or word == "show":
            return self.stack[-1][0] == "number"
        if word == "work":
            return is_workable(row[1], self.stack[-2], self.stack[-1])
        if word == "call" or word == "last":
            return sort_of(self.stack[-2], self.things) in SORTS_CALLED
        return True

    def give(self, worth):
        """Give a worth to the top frame, or end."""
        frame = self.pile.pop()
        if frame is None:
            self.final = worth
            self.ended = ending_of(worth, self.things)
            return
        block, place, slots, worths, function = frame
        self.resume(block, place, dict(slots), [*worths, worth], function)

    def put_up(self, place):
        """Put up a frame that goes on at a place, with the slots and the pile as they are."""
        self.pile.push((self.block, place, dict(self.slots), tuple(self.stack), self.function))

    def make(self, row):
        """Make a thing; its worth."""
        birth = self.things_made
        self.things_made += 1
        self.things[birth] = row
        return ("thing", birth)

    def make_function(self, block, picks):
        """Make a function of a block with what its picks reach."""
        return self.make(("function", block, tuple([self.reached(pick) for pick in picks])))

    def reached(self, row):
        """The worth that a slot, held or self row reaches."""
        if row[0] == "slot":
            return self.slots[row[1]]
        if row[0] == "held":
            return self.things[self.function[1]][2][row[1]]
        return self.function

    def ahead_kind(self):
        """The kind of the next step, None if the run is over."""
        if self.ended is not None:
            return None
        word = self.rows[self.place][0]
        if word == "call" or word == "last":
            return SORTS_CALLED[sort_of(self.stack[-2], self.things)]
        return STEP_KINDS[word]

    def step(self):
        """Do the next step; whether there was one."""
        if self.ended is not None:
            return False
        self.moment += 1
        self.kinds.append(self.ahead_kind())
        row = self.rows[self.place]
        self.place += 1
        action = ROWS[row[0]]
        action(self, row)
        self.go_on()
        return True

    def told(self):
        """What the run has shown, how it ends if it goes no farther, and the counts of its steps."""
        end = ("more",) if self.ended is None else self.ended
        return (tuple(self.numbers), end, counted(self.kinds))


def do_number(runner, row):
    """The number is put on the pile."""
    runner.stack.append(row)


def do_reach(runner, row):
    """What the row reaches is put on the pile."""
    runner.stack.append(runner.reached(row))


def do_fun(runner, row):
    """A function is made and put on the pile."""
    runner.stack.append(runner.make_function(row[1], row[2]))


def do_def(runner, row):
    """A function is made and put into a slot."""
    runner.slots[row[3]] = runner.make_function(row[1], row[2])


def do_let(runner, row):
    """A worth is put into a slot."""
    runner.slots[row[1]] = runner.stack.pop()


def do_open(runner, row):
    """Both parts of a pair are put into slots."""
    _, one, other = runner.things[runner.stack.pop()[1]]
    runner.slots[row[1]] = one
    runner.slots[row[2]] = other


def do_choose(runner, row):
    """The number chooses the place at which it goes on."""
    if runner.stack.pop()[1] == 0:
        runner.place = row[1]


def do_pair(runner, row):
    """A pair is made and put on the pile."""
    other = runner.stack.pop()
    one = runner.stack.pop()
    runner.stack.append(runner.make(("pair", one, other)))


def do_work(runner, row):
    """What comes of both numbers is put on the pile."""
    other = runner.stack.pop()
    one = runner.stack.pop()
    runner.stack.append(("number", worked(row[1], one[1], other[1])))


def do_show(runner, row):
    """The number is shown, and stays on the pile."""
    runner.numbers.append(runner.stack[-1][1])


def do_keep(runner, row):
    """A frame is put up, and the place is kept with it at the top."""
    runner.put_up(row[2])
    runner.stack = []
    do_keeplast(runner, row)


def do_keeplast(runner, row):
    """The place is kept."""
    runner.slots[row[1]] = runner.make(("kept", runner.pile.kept()))


def do_call(runner, row):
    """A function is begun, for a call that is not the last one with a frame, or a place is entered."""
    argument = runner.stack.pop()
    called = runner.stack.pop()
    thing = runner.things[called[1]]
    if thing[0] == "kept":
        runner.pile.enter(thing[1])
        runner.give(argument)
        return
    if row[0] == "call":
        runner.put_up(runner.place)
    runner.begin(thing[1], {0: argument}, called)


ROWS = {
    "number": do_number, "slot": do_reach, "held": do_reach, "self": do_reach, "fun": do_fun, "def": do_def,
    "let": do_let, "open": do_open, "choose": do_choose, "pair": do_pair, "work": do_work, "show": do_show,
    "keep": do_keep, "keeplast": do_keeplast, "call": do_call, "last": do_call,
}
