"""Expressions translated into ones without keep, and brought back.

names are three that stand nowhere in the program: c for the follower of the expression that is
translated, a function to which its worth goes, v and w for worths on their way.
"""

from returnsdue.namerow import name_at
from returnsdue.shapes import PARTS
from returnsdue.terms import names_standing


def spare_of(program):
    """The first three names of the row that stand nowhere in a program."""
    standing = names_standing(program)
    found = []
    at = 0
    while len(found) < 3:
        if name_at(at) not in standing:
            found.append(name_at(at))
        at += 1
    return tuple(found)


def translation_of(program):
    """The translation of a program."""
    c, v, w = spare_of(program)
    return ("call", ("fun", c, translated(program, (c, v, w))), ("fun", v, ("name", v)))


def handed(name, e):
    """The call by which the worth of an expression goes to the follower with this name."""
    return ("call", ("name", name), e)


def translated(e, names):
    """The translation of an expression."""
    c, v, w = names
    word = e[0]
    if word == "name" or word == "number":
        return handed(c, e)
    if word == "fun":
        return handed(c, ("fun", e[1], ("fun", c, translated(e[2], names))))
    if word == "def":
        return ("def", e[1], e[2], ("fun", c, translated(e[3], names)), translated(e[4], names))
    if word == "keep":
        place = ("fun", w, ("fun", v, handed(c, ("name", w))))
        return ("call", ("fun", e[1], translated(e[2], names)), place)
    first = translated(e[PARTS[word][0]], names)
    if word == "let":
        return ("call", ("fun", c, first), ("fun", e[1], translated(e[3], names)))
    return ("call", ("fun", c, first), ("fun", v, behind_first(e, names)))


def behind_first(e, names):
    """What the follower of the first part of an expression does with the worth of that part."""
    c, v, w = names
    word = e[0]
    if word == "open":
        return ("open", ("name", v), e[2], e[3], translated(e[4], names))
    if word == "choose":
        return ("choose", ("name", v), translated(e[2], names), translated(e[3], names))
    if word == "show":
        return handed(c, ("show", ("name", v)))
    second = translated(e[PARTS[word][1]], names)
    return ("call", ("fun", c, second), ("fun", w, behind_second(e, names)))


def behind_second(e, names):
    """What the follower of the second part of a call, work or pair does with both worths."""
    c, v, w = names
    if e[0] == "call":
        return ("call", ("call", ("name", v), ("name", w)), ("name", c))
    if e[0] == "work":
        return handed(c, ("work", e[1], ("name", v), ("name", w)))
    return handed(c, ("pair", ("name", v), ("name", w)))


def brought_back(program):
    """What a program is the translation of, if it is one; if it is none, any value may come."""
    if program[0] != "call" or program[1][0] != "fun":
        return None
    return part_back(program[1][2], program[1][1], program[2][1])


def part_back(e, c, v):
    """As brought_back, of an expression in which the follower has the name c."""
    if e[0] == "def" and e[3][0] == "fun":
        return ("def", e[1], e[2], part_back(e[3][2], c, v), part_back(e[4], c, v))
    if e[0] != "call":
        return None
    _, first, follower = e
    if first[0] == "name":
        return worth_back(follower, c, v)
    if first[0] != "fun" or follower[0] != "fun":
        return None
    one = part_back(first[2], c, v)
    if first[1] != c:
        return ("keep", first[1], one)
    if follower[1] != v:
        return ("let", follower[1], one, part_back(follower[2], c, v))
    return first_back(one, follower[2], c, v)


def worth_back(e, c, v):
    """As part_back, of what is handed to the follower at once: a name, a number or a function."""
    if e[0] == "fun" and e[2][0] == "fun":
        return ("fun", e[1], part_back(e[2][2], c, v))
    return e


def first_back(one, e, c, v):
    """As part_back, of an expression with this first part, whose follower has this body."""
    if e[0] == "open":
        return ("open", one, e[2], e[3], part_back(e[4], c, v))
    if e[0] == "choose":
        return ("choose", one, part_back(e[2], c, v), part_back(e[3], c, v))
    if e[0] != "call":
        return None
    _, first, follower = e
    if first[0] == "name":
        return ("show", one)
    if first[0] != "fun" or follower[0] != "fun":
        return None
    return second_back(one, part_back(first[2], c, v), follower[2])


def second_back(one, other, e):
    """As first_back, of an expression with these two parts."""
    if e[0] == "call" and e[2][0] == "work":
        return ("work", e[2][1], one, other)
    if e[0] == "call" and e[2][0] == "pair":
        return ("pair", one, other)
    return ("call", one, other)
