"""Values that are of no use: things that are no programs, no wholes, and deep ones."""

from returnsdue.piles import Copied


def nested(levels, wrap, core):
    value = core
    for _ in range(levels):
        value = wrap(value)
    return value


DEEP = [
    nested(299, lambda value: (value,), ()),
    nested(299, lambda value: [value], []),
    nested(299, lambda value: {"a": value}, {}),
    nested(149, lambda value: (("enter", value),), ()),
    nested(299, lambda value: ("keep", 0, value), ("number",)),
    nested(299, lambda value: ("show", value), ("number", 1)),
]
ODD = [
    None, True, False, 0, 1, -1, 10 ** 30, "", "a", "number", (), [], {}, ((),), [[]], {"name": 1}, (None,),
    ("name",), ("name", "x", "y"), ["name", "x"], ("number", True), ("number", "1"), ("number", 10 ** 30),
    ("number", -10 ** 30), (("number", 1),), ["number", 1], ("fun", "x"), ("fun", "let", ("number", 1)),
    ("fun", "x", ["number", 1]), ("unknown", 1), ([], 1), ({}, 1), (("name",), "x"), Copied(), (Copied(),),
    *DEEP,
]
NO_WHOLES = [None, True, False, "1", (), [], (1,), {}, Copied()]


class Awkward:
    """A frame into which nobody may look."""

    def __eq__(self, other):
        raise AssertionError("somebody looks into it")

    def __bool__(self):
        raise AssertionError("somebody looks into it")

    __hash__ = None
