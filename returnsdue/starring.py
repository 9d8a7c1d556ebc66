"""Demands and trees of bills, translated for programs without keep.

The demands of a table are translated number by number, those within one ahead of it. A tree of a
part for returns R becomes one of the translated part, which returns once, with the last uses.
"""

NAME = ("name",)


class Stars:
    """The demands of a table, translated under an end told; end_uses are those of what ends the run."""

    def __init__(self, table, told):
        self.end_uses = (("end", end_starred(told)),)
        self.table = table
        self.demands = []
        for row in table.rows:
            self.demands.append(self.starred(row))

    def starred(self, row):
        """The translation of a demand, which is told by the numbers of those within it."""
        word = row[0]
        if word == "number":
            return row
        if word == "end":
            return ("end", end_starred(row[1]))
        if word == "open":
            return ("open", self.starred_uses(row[1]), self.starred_uses(row[2]))
        calls = self.calls(row[2]) if word == "call" else ()
        return ("call", self.starred_uses(row[1]), ((("call", calls, (self.end_uses,)),),))

    def starred_uses(self, numbers):
        """The translation of uses."""
        return tuple([self.demands[number] for number in numbers])

    def calls(self, returns):
        """The calls of the follower of an expression that is used for these returns."""
        return tuple([("call", self.starred_uses(numbers), (self.end_uses,)) for numbers in returns])


def end_starred(told):
    """How the run of a translation ends where that of the program ends so."""
    return ("function",) if told == ("kept",) else told


def called_once(tree, other, uses):
    """The tree of a call, begun once, of what has this tree with a worth that has the other one."""
    return ("call", tree, ((other, (("called", uses, 1),)),))


def handed(tree, uses):
    """The tree of the call by which a worth, that has this tree, goes to a follower."""
    return called_once(NAME, tree, uses)


def followed(stars, tree, kids):
    """The tree of a translated part whose follower has these kids, one for each of its returns."""
    return called_once(("fun", (tree_starred(stars, tree),)), ("fun", tuple(kids)), stars.calls(tree.returns))


def tree_starred(stars, tree):
    """The translation of a tree, which knows its returns."""
    action = STARRING[tree.word]
    return action(stars, tree)


def star_plain(stars, tree):
    """The worth of a name or number goes to the follower."""
    return handed((tree.word,), stars.starred_uses(tree.returns[0]))


def kids_starred(stars, kids):
    """The kids of a function that takes a worth first, and a follower second."""
    return tuple([None if kid is None else ("fun", (tree_starred(stars, kid),)) for kid in kids])


def star_fun(stars, tree):
    """A function goes to the follower."""
    return handed(("fun", kids_starred(stars, tree.trees)), stars.starred_uses(tree.returns[0]))


def star_def(stars, tree):
    """A def stays."""
    return ("def", kids_starred(stars, tree.trees[:-1]), tree_starred(stars, tree.trees[-1]))


def star_keep(stars, tree):
    """A kept place becomes a function that gives a worth to the follower of the keep."""
    inner = tree.trees[0]
    numbers = inner.needed.get(tree.node.expression[1], ())
    kids = []
    for number in numbers:
        demand = stars.table.rows[number]
        kids.append(("fun", (handed(NAME, stars.starred_uses(demand[1])),)) if demand[0] == "enter" else None)
    return called_once(("fun", (tree_starred(stars, inner),)), ("fun", tuple(kids)), stars.starred_uses(numbers))


def star_let(stars, tree):
    """Each row becomes a kid."""
    return followed(stars, tree.trees[0], [tree_starred(stars, inner) for inner in tree.last()])


def star_open(stars, tree):
    """Each row becomes a kid that opens its worth."""
    return followed(stars, tree.trees[0], [("open", NAME, (tree_starred(stars, inner),)) for inner in tree.last()])


def star_choose(stars, tree):
    """Each row becomes a kid that chooses by its worth."""
    kids = []
    for number, inner in zip(tree.marks, tree.last()):
        kids.append(("choose", NAME, ((number, tree_starred(stars, inner)),)))
    return followed(stars, tree.trees[0], kids)


def star_show(stars, tree):
    """Each number becomes a kid that shows its worth."""
    kids = []
    for number, numbers in zip(tree.marks, tree.returns):
        kids.append(handed(("show", NAME, (number,)), stars.starred_uses(numbers)))
    return followed(stars, tree.trees[0], kids)


def star_both(stars, tree):
    """Each row of a call, work or pair becomes a kid, and each return within it a kid of that one."""
    kids = []
    at = 0
    for row, inner in enumerate(tree.last()):
        inner_kids = []
        for place in range(inner.many):
            many = returns_behind(tree, row, place)
            inner_kids.append(second_starred(stars, tree, row, place, tree.returns[at:at + many]))
            at += many
        kids.append(followed(stars, inner, inner_kids))
    return followed(stars, tree.trees[0], kids)


def returns_behind(tree, row, place):
    """How often a call, work or pair returns for one return of a tree in its rows."""
    if tree.word != "call":
        return 1
    act = tree.marks[row][place]
    return act[2] if act[0] == "called" else 0


def second_starred(stars, tree, row, place, returns):
    """The tree of what is done with both worths of a call, work or pair, for these returns."""
    if tree.word == "call":
        called = handed(NAME, stars.starred_uses(tree.last()[row].returns[place]))
        return called_once(called, NAME, stars.calls(returns))
    if tree.word == "work":
        made = ("work", NAME, ((NAME, (tree.marks[row][place],)),))
    else:
        made = ("pair", NAME, (NAME,))
    return handed(made, stars.starred_uses(returns[0]))


STARRING = {
    "name": star_plain, "number": star_plain, "fun": star_fun, "def": star_def, "keep": star_keep, "let": star_let,
    "open": star_open, "choose": star_choose, "show": star_show, "call": star_both, "work": star_both,
    "pair": star_both,
}


def bill_starred(table, told, tree):
    """The bill of the translation of a program whose bill has this tree and tells this end."""
    stars = Stars(table, told)
    return (end_starred(told), followed(stars, tree, [NAME]))
