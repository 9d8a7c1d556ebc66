"""Programs laid into code."""

from returnsdue.shapes import names_told
from returnsdue.terms import check_program, gather_free


class Layer:
    """A block that is being laid, and the blocks of its code, None for those not yet ended.

    bound are the names bound around in the block, each at the index that is its slot; itself is
    the name by which the function whose body it is knows itself, None without one; held_names are
    those that it has from the block around.
    """

    def __init__(self, blocks, itself, held_names):
        self.blocks = blocks
        self.itself = itself
        self.held_names = held_names
        self.bound = []
        self.slots = 0
        self.rows = []

    def bind(self, name):
        """Bind one more name; its slot."""
        self.bound.append(name)
        self.slots = max(self.slots, len(self.bound))
        return len(self.bound) - 1

    def unbind(self, many, is_last):
        """Come to the end of the newest names; their slots are dropped unless the block ends there."""
        for _ in range(many):
            self.bound.pop()
            if not is_last:
                self.rows.append(("drop", len(self.bound)))

    def reach(self, name):
        """The row by which a name is reached."""
        for slot in reversed(range(len(self.bound))):
            if self.bound[slot] == name:
                return ("slot", slot)
        return ("self",) if name == self.itself else ("held", self.held_names.index(name))

    def lay(self, expression, is_last):
        """Lay an expression, as the last one of the block or not."""
        word = expression[0]
        action = LAYING[word]
        action(self, expression, is_last)
        if is_last and word in COMING_BACK:
            self.rows.append(("return",))

    def ended_block(self):
        """The block with all that has been laid."""
        return (len(self.held_names), self.slots, tuple(self.rows))


def lay_name(layer, expression, is_last):
    """A name: how it is reached."""
    layer.rows.append(layer.reach(expression[1]))


def lay_number(layer, expression, is_last):
    """A number."""
    layer.rows.append(expression)


def lay_fun(layer, expression, is_last):
    """A function, and the block of its body."""
    number, picks = lay_body(layer, expression, 2, None, expression[1])
    layer.rows.append(("fun", number, picks))


def lay_def(layer, expression, is_last):
    """A function with a name, the block of its body, and what that name is for."""
    number, picks = lay_body(layer, expression, 3, expression[1], expression[2])
    slot = layer.bind(expression[1])
    layer.rows.append(("def", number, picks, slot))
    layer.lay(expression[4], is_last)
    layer.unbind(1, is_last)


def lay_body(layer, expression, at, itself, argument):
    """Lay the block of a body, the part at an index; its number, and how its held names are reached."""
    met = {}
    gather_free(expression[at], names_told(expression, at), met)
    number = len(layer.blocks)
    layer.blocks.append(None)
    inner = Layer(layer.blocks, itself, list(met))
    inner.bind(argument)
    inner.lay(expression[at], True)
    layer.blocks[number] = inner.ended_block()
    return (number, tuple([layer.reach(name) for name in met]))


def lay_let(layer, expression, is_last):
    """A worth put into a slot, and what it is for."""
    layer.lay(expression[2], False)
    layer.rows.append(("let", layer.bind(expression[1])))
    layer.lay(expression[3], is_last)
    layer.unbind(1, is_last)


def lay_open(layer, expression, is_last):
    """A pair whose parts are put into slots, and what they are for."""
    layer.lay(expression[1], False)
    layer.rows.append(("open", layer.bind(expression[2]), layer.bind(expression[3])))
    layer.lay(expression[4], is_last)
    layer.unbind(2, is_last)


def lay_choose(layer, expression, is_last):
    """Both parts that can be chosen; behind the first one the way leads past the second one."""
    layer.lay(expression[1], False)
    fork = len(layer.rows)
    layer.rows.append(None)
    layer.lay(expression[2], is_last)
    leap = len(layer.rows)
    if not is_last:
        layer.rows.append(None)
    layer.rows[fork] = ("choose", len(layer.rows))
    layer.lay(expression[3], is_last)
    if not is_last:
        layer.rows[leap] = ("go", len(layer.rows))


def lay_keep(layer, expression, is_last):
    """A place that is kept, and what it is for, which ends the way through the block."""
    slot = layer.bind(expression[1])
    fork = len(layer.rows)
    layer.rows.append(("keeplast", slot))
    layer.lay(expression[2], True)
    layer.unbind(1, True)
    if not is_last:
        layer.rows[fork] = ("keep", slot, len(layer.rows))


def lay_call(layer, expression, is_last):
    """A call, in a last place without a frame."""
    layer.lay(expression[1], False)
    layer.lay(expression[2], False)
    layer.rows.append(("last",) if is_last else ("call",))


def lay_pair(layer, expression, is_last):
    """A pair."""
    layer.lay(expression[1], False)
    layer.lay(expression[2], False)
    layer.rows.append(("pair",))


def lay_work(layer, expression, is_last):
    """A work of two numbers."""
    layer.lay(expression[2], False)
    layer.lay(expression[3], False)
    layer.rows.append(("work", expression[1]))


def lay_show(layer, expression, is_last):
    """A number that is shown."""
    layer.lay(expression[1], False)
    layer.rows.append(("show",))


LAYING = {
    "name": lay_name, "number": lay_number, "fun": lay_fun, "call": lay_call, "let": lay_let, "def": lay_def,
    "pair": lay_pair, "open": lay_open, "choose": lay_choose, "work": lay_work, "show": lay_show, "keep": lay_keep,
}
# What comes to a worth that lies on the pile: where it is last, the worth is given.
COMING_BACK = ("name", "number", "fun", "pair", "work", "show")


def compiled(program):
    """The code of a program."""
    check_program(program)
    blocks = [None]
    layer = Layer(blocks, None, [])
    layer.lay(program, True)
    blocks[0] = layer.ended_block()
    return tuple(blocks)
