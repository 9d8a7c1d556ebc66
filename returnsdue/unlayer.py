"""Code read back into an expression, as it would have been laid.

Only what would lead the reading astray is looked at here. So what comes, if it is a program at
all, must be laid again to be sure.
"""

from returnsdue.plainnames import Namer
from returnsdue.terms import MOST_ROW


class Source:
    """A code that is read back.

    blocks_met are those begun so far; row is how many parts stand directly in one another where it
    is read now; is_sound tells whether it may still be the code of a program.
    """

    def __init__(self, code):
        self.code = code
        self.namer = Namer()
        self.blocks_met = 1
        self.row = 0
        self.is_sound = True

    def fail(self):
        """Note that this is the code of no program."""
        self.is_sound = False


class Unlayer:
    """A block that is read back.

    bound are the names bound so far, by slots; itself is the name of the function whose body it
    is, None without one; held_names are those that it has from the block around. stack has the
    expressions of the part that is being read; ended_by tells what has ended that part: "drop" or
    "go" by a row that is not read yet, "stop" by its place, "last" with the block; None ahead of it.
    """

    def __init__(self, source, number, itself, held_names):
        self.source = source
        self.rows = source.code[number][2]
        self.itself = itself
        self.held_names = held_names
        self.place = 0
        self.bound = []
        self.stack = []
        self.ended_by = None

    def read_part(self, stop):
        """Read the part that begins here; it ends at the place stop if no row ends it."""
        around = self.stack
        self.stack = []
        self.ended_by = None
        self.source.row += 1
        if self.source.row > MOST_ROW:
            self.source.fail()
        while self.ended_by is None and self.source.is_sound:
            self.read_row(stop)
        self.source.row -= 1
        part = self.take_part()
        self.stack = around
        return part

    def read_row(self, stop):
        """Read one row, unless the part has ended."""
        if self.place == stop:
            self.ended_by = "stop"
        elif self.place >= len(self.rows):
            self.source.fail()
        elif self.rows[self.place][0] in ("drop", "go"):
            self.ended_by = self.rows[self.place][0]
        else:
            row = self.rows[self.place]
            self.place += 1
            action = READING[row[0]]
            action(self, row)

    def take_part(self):
        """The expression that was read last, which is taken away; None without one."""
        return self.stack.pop() if self.stack else None

    def bind(self):
        """A new name that is bound in the next slot."""
        self.bound.append(self.source.namer.next_name())
        return self.bound[-1]

    def read_bound(self, many):
        """Read the part in which so many names are bound that were bound last."""
        part = self.read_part(None)
        if self.ended_by == "drop":
            self.place += many
            self.ended_by = None
        for _ in range(many):
            self.bound.pop()
        return part

    def read_kept(self):
        """Read a kept place and its part, which ends as the block does; the keep."""
        name = self.bind()
        part = self.read_part(None)
        self.bound.pop()
        return ("keep", name, part)

    def read_body(self, number, picks, itself):
        """Read the block of a function; the name of its argument and its body."""
        if number != self.source.blocks_met:
            return (None, None)
        self.source.blocks_met += 1
        inner = Unlayer(self.source, number, itself, [self.name_of(pick) for pick in picks])
        argument = inner.bind()
        return (argument, inner.read_part(None))

    def name_of(self, row):
        """The name that a slot, held or self row reaches; None without one."""
        if row[0] == "slot":
            return self.bound[row[1]] if row[1] < len(self.bound) else None
        return self.held_names[row[1]] if row[0] == "held" else self.itself


def read_reach(block, row):
    """A name."""
    block.stack.append(("name", block.name_of(row)))


def read_number(block, row):
    """A number."""
    block.stack.append(row)


def read_fun(block, row):
    """A function."""
    argument, body = block.read_body(row[1], row[2], None)
    block.stack.append(("fun", argument, body))


def read_def(block, row):
    """A function with a name."""
    itself = block.source.namer.next_name()
    argument, body = block.read_body(row[1], row[2], itself)
    block.bound.append(itself)
    block.stack.append(("def", itself, argument, body, block.read_bound(1)))


def read_let(block, row):
    """A worth put into a slot."""
    first = block.take_part()
    name = block.bind()
    block.stack.append(("let", name, first, block.read_bound(1)))


def read_open(block, row):
    """A pair whose parts are put into slots."""
    first = block.take_part()
    one = block.bind()
    other = block.bind()
    block.stack.append(("open", first, one, other, block.read_bound(2)))


def read_choose(block, row):
    """A number that chooses; the first part leads past the second one unless the block ends."""
    number = block.take_part()
    first = block.read_part(None)
    stop = None
    if block.ended_by == "go":
        stop = block.rows[block.place][1]
        block.place += 1
    second = block.read_part(stop)
    if stop is not None:
        block.ended_by = None
    block.stack.append(("choose", number, first, second))


def read_keep(block, row):
    """A kept place to which a worth comes back."""
    block.stack.append(block.read_kept())
    block.ended_by = None


def read_keeplast(block, row):
    """A kept place with which the block ends."""
    block.stack.append(block.read_kept())


def read_pair(block, row):
    """A pair."""
    other = block.take_part()
    block.stack.append(("pair", block.take_part(), other))


def read_work(block, row):
    """A work of two numbers."""
    other = block.take_part()
    block.stack.append(("work", row[1], block.take_part(), other))


def read_show(block, row):
    """A number that is shown."""
    block.stack.append(("show", block.take_part()))


def read_call(block, row):
    """A call; the last one ends the block."""
    other = block.take_part()
    block.stack.append(("call", block.take_part(), other))
    block.ended_by = "last" if row[0] == "last" else None


def read_return(block, row):
    """The end of the block."""
    block.ended_by = "last"


READING = {
    "slot": read_reach, "held": read_reach, "self": read_reach, "number": read_number, "fun": read_fun, "def": read_def,
    "let": read_let, "open": read_open, "choose": read_choose, "keep": read_keep, "keeplast": read_keeplast,
    "pair": read_pair, "work": read_work, "show": read_show, "call": read_call, "last": read_call,
    "return": read_return,
}


def read_back(code):
    """The program whose code a code is, if it is one's; otherwise any value may come."""
    return Unlayer(Source(code), 0, None, []).read_part(None)
