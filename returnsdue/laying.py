"""The bill of a run laid beside the rows of its trail: which tree stands for which begun expression.

A begun expression, a given worth and a step are told by the place of their row in the trail; the
place of a tree, or a line, by the indexes that lead to it from the tree of the bill.
"""


class Laid:
    """A ledger and the tree of the same bill, which lies beside it.

    trees has, by the rows of begun expressions, the tree of each; lines has, by the rows at which
    steps are done, the line of each: a triple (kind, place, n).
    """

    def __init__(self, ledger, tree):
        self.ledger = ledger
        self.trees = {}
        self.lines = {}
        waiting = [(0, tree, ())]
        while waiting:
            row, part, place = waiting.pop()
            self.trees[row] = part
            action = LAYING[part.word]
            waiting.extend(action(self, row, part, place))

    def note(self, row, kind, place, counted=0):
        """Note the line of the step that is done at a row."""
        self.lines[row] = (kind, place, counted)

    def rows_returned(self, row):
        """The numbered rows of the worths that a begun expression returns."""
        return list(enumerate(self.ledger.returns[row]))


def lay_leaf(laid, row, tree, place):
    """A name or number is a line."""
    laid.note(row, "look" if tree.word == "name" else "hold", place)
    return []


def kids_within(laid, tree, place, uses):
    """The kids that stand for these uses of a function."""
    kids = [(laid.ledger.kid(use), tree.trees[at], (*place, 1, at)) for at, use in enumerate(uses)]
    return [kid for kid in kids if kid[0] is not None]


def lay_fun(laid, row, tree, place):
    """A function is a line; its kids are begun by its uses."""
    laid.note(row, "hold", place)
    return kids_within(laid, tree, place, laid.ledger.uses[row + 1])


def lay_def(laid, row, tree, place):
    """A def is a line; its kids are begun by the uses of its function."""
    laid.note(row, "def", place)
    uses = laid.ledger.uses_of_def(row, tree.node.expression[1])
    return [(row + 1, tree.trees[-1], (*place, 2)), *kids_within(laid, tree, place, uses)]


def lay_keep(laid, row, tree, place):
    """A keep is a line."""
    laid.note(row, "keep", place)
    return [(row + 1, tree.trees[0], (*place, 2))]


def lay_binding(laid, row, tree, place):
    """Each row of a let, open or choose is a line."""
    found = [(row + 1, tree.trees[0], (*place, 1))]
    for at, given in laid.rows_returned(row + 1):
        laid.note(given, tree.word, (*place, 2, at))
        inner = (*place, 2, at, 1) if tree.word == "choose" else (*place, 2, at)
        found.append((given + 1, tree.last()[at], inner))
    return found


def lay_show(laid, row, tree, place):
    """Each number of a show is a line."""
    for at, given in laid.rows_returned(row + 1):
        laid.note(given, "show", (*place, 2, at))
    return [(row + 1, tree.trees[0], (*place, 1))]


def lay_both(laid, row, tree, place):
    """What a row of a call, work or pair tells for each return of its tree is a line."""
    found = [(row + 1, tree.trees[0], (*place, 1))]
    for at, given in laid.rows_returned(row + 1):
        inner = (*place, 2, at) if tree.word == "pair" else (*place, 2, at, 0)
        found.append((given + 1, tree.last()[at], inner))
        for which, other in laid.rows_returned(given + 1):
            if tree.word == "pair":
                laid.note(other, "hold", inner, which + 1)
            else:
                laid.note(other, kind_of(tree, at, which), (*place, 2, at, 1, which))
    return found


def kind_of(tree, at, which):
    """The kind of the line of an act, or of a pair of wholes."""
    if tree.word == "work":
        return "work"
    return "call" if tree.marks[at][which][0] == "called" else "enter"


LAYING = {
    "name": lay_leaf, "number": lay_leaf, "fun": lay_fun, "def": lay_def, "keep": lay_keep, "let": lay_binding,
    "open": lay_binding, "choose": lay_binding, "show": lay_show, "call": lay_both, "work": lay_both, "pair": lay_both,
}
