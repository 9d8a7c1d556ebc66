"""The shapes of expressions: their lengths, their parts and the names that they bind."""

KEPT_WORDS = (
    "call", "choose", "def", "fun", "keep", "less", "let", "minus",
    "open", "pair", "plus", "same", "show", "times",
)
LENGTHS = {
    "name": 2, "number": 2, "fun": 3, "call": 3, "let": 4, "def": 5,
    "pair": 3, "open": 5, "choose": 4, "work": 4, "show": 2, "keep": 3,
}
PARTS = {
    "name": (), "number": (), "fun": (2,), "call": (1, 2), "let": (2, 3), "def": (3, 4),
    "pair": (1, 2), "open": (1, 4), "choose": (1, 2, 3), "work": (2, 3), "show": (1,), "keep": (2,),
}
# A scope is a pair: the index of a bound name, and that of a part in which it is told.
SCOPES = {
    "name": (), "number": (), "fun": ((1, 2),), "call": (), "let": ((1, 3),),
    "def": ((1, 3), (2, 3), (1, 4)), "pair": (), "open": ((2, 4), (3, 4)),
    "choose": (), "work": (), "show": (), "keep": ((1, 2),),
}
BINDERS = {
    "name": (), "number": (), "fun": (1,), "call": (), "let": (1,), "def": (1, 2),
    "pair": (), "open": (2, 3), "choose": (), "work": (), "show": (), "keep": (1,),
}


def names_bound(expression):
    """The names that the node itself binds."""
    return tuple([expression[at] for at in BINDERS[expression[0]]])


def names_told(expression, part):
    """The names that the node binds in its part at this index."""
    return tuple([expression[at] for at, told in SCOPES[expression[0]] if told == part])
