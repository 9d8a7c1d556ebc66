"""The eleven passes: where in a program with plain names each can be done, and what comes of it.

As no two bound names are equal there, no name can be caught when another one takes its place.
"""

from returnsdue.shapes import PARTS
from returnsdue.terms import put, with_name
from returnsdue.wholes import is_number, worked

# The parts whose last places are last places of the whole.
LAST_PARTS = {"let": (3,), "open": (4,), "def": (4,), "choose": (2, 3), "keep": (2,)}


class Spot:
    """A part of a program where it stands.

    near_keeps are the names bound by keeps at a last place of whose part it stands; all_keeps is a
    dict from the names bound by any keep of the program to True.
    """

    def __init__(self, part, path, near_keeps, all_keeps):
        self.part = part
        self.path = path
        self.near_keeps = near_keeps
        self.all_keeps = all_keeps

    def within(self, at):
        """The spot of the part at an index."""
        word = self.part[0]
        near = self.near_keeps if at in LAST_PARTS.get(word, ()) else ()
        if word == "keep":
            near = (*near, self.part[1])
        return Spot(self.part[at], (*self.path, at), near, self.all_keeps)


def keeps_in(e):
    """A dict with the names that the keeps in an expression bind."""
    found = {}
    waiting = [e]
    while waiting:
        part = waiting.pop()
        if part[0] == "keep":
            found[part[1]] = True
        waiting.extend([part[at] for at in PARTS[part[0]]])
    return found


def spots_of(program):
    """The spots of all parts of a program, each ahead of those in it."""
    found = []
    waiting = [Spot(program, (), (), keeps_in(program))]
    while waiting:
        spot = waiting.pop()
        found.append(spot)
        waiting.extend([spot.within(at) for at in PARTS[spot.part[0]]])
    return found


def spot_at(program, path):
    """The spot to which a path leads in a program."""
    spot = Spot(program, (), (), keeps_in(program))
    for at in path:
        spot = spot.within(at)
    return spot


def stands_in(name, e):
    """Whether a name stands in an expression."""
    waiting = [e]
    while waiting:
        part = waiting.pop()
        if part == ("name", name):
            return True
        waiting.extend([part[at] for at in PARTS[part[0]]])
    return False


def is_harmless(e):
    """Whether an expression is a name, a number, a fun, or a pair of two harmless parts."""
    if e[0] == "pair":
        return is_harmless(e[1]) and is_harmless(e[2])
    return e[0] in ("name", "number", "fun")


def pass_choose(spot):
    """A choose by a number is the part that is chosen."""
    word, number, one, other = spot.part
    if number[0] != "number":
        return None
    return one if number[1] != 0 else other


def pass_fun(spot):
    """A call of a fun is a let."""
    _, called, argument = spot.part
    return ("let", called[1], argument, called[2]) if called[0] == "fun" else None


def pass_keep(spot):
    """A place that nobody names need not be kept."""
    _, name, part = spot.part
    return None if stands_in(name, part) else part


def pass_last(spot):
    """To enter a place from where its keep returns anyway is to return."""
    _, called, argument = spot.part
    return argument if called[0] == "name" and called[1] in spot.near_keeps else None


def pass_let(spot):
    """A name for a name is that name."""
    _, name, first, part = spot.part
    return with_name(part, name, first[1]) if first[0] == "name" else None


def pass_nest(spot):
    """A keep that returns where another one does has the same place."""
    _, name, part = spot.part
    return ("keep", name, with_name(part[2], part[1], name)) if part[0] == "keep" else None


def pass_never(spot):
    """What waits for an entry waits for nothing."""
    first = spot.part[PARTS[spot.part[0]][0]]
    if first[0] != "call" or first[1][0] != "name":
        return None
    return first if first[1][1] in spot.all_keeps else None


def pass_open(spot):
    """To open a pair of two names is to use these."""
    _, first, one, other, part = spot.part
    if first[0] != "pair" or first[1][0] != "name" or first[2][0] != "name":
        return None
    return with_name(with_name(part, one, first[1][1]), other, first[2][1])


def pass_same(spot):
    """A name for what is then looked up at once is that."""
    _, name, first, part = spot.part
    return first if part == ("name", name) else None


def pass_unused(spot):
    """What nobody names, and what does nothing else, need not be made."""
    part = spot.part
    if part[0] == "let" and not is_harmless(part[2]):
        return None
    return None if stands_in(part[1], part[-1]) else part[-1]


def pass_work(spot):
    """A work of two numbers is what comes of it."""
    _, word, one, other = spot.part
    if one[0] != "number" or other[0] != "number":
        return None
    number = worked(word, one[1], other[1])
    return ("number", number) if is_number(number) else None


PASSES = {
    "choose": pass_choose, "fun": pass_fun, "keep": pass_keep, "last": pass_last, "let": pass_let, "nest": pass_nest,
    "never": pass_never, "open": pass_open, "same": pass_same, "unused": pass_unused, "work": pass_work,
}
# The passes that may be done at an expression with a word.
WORDS_OF = {
    "name": (), "number": (), "fun": (), "call": ("fun", "last", "never"), "let": ("let", "never", "same", "unused"),
    "def": ("unused",), "pair": ("never",), "open": ("never", "open"), "choose": ("choose", "never"),
    "work": ("never", "work"), "show": ("never",), "keep": ("keep", "nest"),
}


def exchange_at(spot, word):
    """What the part at a spot is exchanged for by the pass with a word; None if it cannot be done."""
    if word not in WORDS_OF[spot.part[0]]:
        return None
    action = PASSES[word]
    return action(spot)


def passes_in(program):
    """The ascending list of the passes that can be done in a program with plain names."""
    found = []
    for spot in spots_of(program):
        for word in WORDS_OF[spot.part[0]]:
            if exchange_at(spot, word) is not None:
                found.append((word, spot.path))
    return sorted(found)


def after_pass(program, word, path):
    """What comes of a pass in a program with plain names; None if it cannot be done."""
    made = exchange_at(spot_at(program, path), word)
    return None if made is None else put(program, path, made)


def after_first_pass(program):
    """What comes of any pass in a program with plain names; None if none can be done."""
    for spot in spots_of(program):
        for word in WORDS_OF[spot.part[0]]:
            made = exchange_at(spot, word)
            if made is not None:
                return put(program, spot.path, made)
    return None
