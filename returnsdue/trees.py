"""Trees of bills: values that are built as such, read into objects with their lines and returns."""

from returnsdue.counts import no_counts
from returnsdue.demands import is_uses
from returnsdue.wholes import is_natural, is_whole

TREE_LENGTHS = {
    "name": 1, "number": 1, "fun": 2, "keep": 3, "def": 3, "call": 3,
    "let": 3, "open": 3, "choose": 3, "work": 3, "show": 3, "pair": 3,
}


class Tree:
    """A tree of a bill.

    trees are the trees in it from left to right, with None where a kid is None; marks are what
    the value has beside them. many is how often it returns. Once it is known to be a bill, node,
    returns and needed tell of which expression, for which returns, and with which needs.
    """

    def __init__(self, value, marks):
        self.value = value
        self.word = value[0]
        self.trees = []
        self.marks = marks
        self.many = 1
        self.node = None
        self.returns = None
        self.needed = None

    def last(self):
        """The trees of the rows of a node that has rows."""
        return self.trees[1:]


def is_tuple_of(value, many):
    """Whether value is a tuple of so many items."""
    return isinstance(value, tuple) and len(value) == many


def is_act(value):
    """Whether value is an act of a row of a call."""
    if is_tuple_of(value, 3):
        return value[0] == "called" and is_uses(value[1]) and is_natural(value[2])
    return is_tuple_of(value, 2) and value[0] == "entered" and is_uses(value[1])


def is_pair_of_wholes(value):
    """Whether value is a pair of wholes, as a row of a work tells."""
    return is_tuple_of(value, 2) and is_whole(value[0]) and is_whole(value[1])


def are_all(test, values):
    """Whether values are a tuple of what passes the test."""
    if not isinstance(values, tuple):
        return False
    for value in values:
        if not test(value):
            return False
    return True


def is_call_row(value):
    """Whether value is a row of a call, whatever stands in the place of its tree."""
    return is_tuple_of(value, 2) and are_all(is_act, value[1])


def is_work_row(value):
    """Whether value is a row of a work, whatever stands in the place of its tree."""
    return is_tuple_of(value, 2) and are_all(is_pair_of_wholes, value[1])


def is_choose_row(value):
    """Whether value is a row of a choose, whatever stands in the place of its tree."""
    return is_tuple_of(value, 2) and is_whole(value[0])


def taken_apart(value):
    """The pair (inner, marks) of a value built as a tree; None if it is built otherwise.

    inner are the values that should be trees, with None where a kid is None.
    """
    if not isinstance(value, tuple) or not value or not isinstance(value[0], str):
        return None
    word = value[0]
    if word not in TREE_LENGTHS or len(value) != TREE_LENGTHS[word]:
        return None
    if word in ("name", "number"):
        return ([], ())
    if word in ("fun", "def"):
        return kids_apart(value)
    if word == "keep":
        return ([value[2]], value[1]) if is_natural(value[1]) else None
    return rows_apart(word, value[1], value[2])


def kids_apart(value):
    """As taken_apart, of a fun or def; its marks tell which kids are trees."""
    if not isinstance(value[1], tuple):
        return None
    return ([*value[1], *value[2:]], tuple([kid is not None for kid in value[1]]))


def rows_apart(word, first, rows):
    """As taken_apart, of a node that has rows."""
    if not isinstance(rows, tuple):
        return None
    if word in ("let", "open", "pair"):
        return ([first, *rows], ())
    if word == "show":
        return ([first], rows) if are_all(is_whole, rows) else None
    if word == "choose":
        if not are_all(is_choose_row, rows):
            return None
        return ([first] + [row[1] for row in rows], tuple([row[0] for row in rows]))
    if not are_all(is_call_row if word == "call" else is_work_row, rows):
        return None
    return ([first] + [row[0] for row in rows], tuple([row[1] for row in rows]))


def read_tree(value):
    """The tree that a value is built as; None if it is not built as one."""
    order = []
    waiting = []
    tree = enter_tree(value, order, waiting)
    while tree is not None and waiting:
        around, part = waiting.pop()
        if part is None and around.word in ("fun", "def"):
            around.trees.append(None)
        else:
            tree = enter_tree(part, order, waiting)
            around.trees.append(tree)
    if tree is None:
        return None
    for at in reversed(range(len(order))):
        if not is_counted(order[at]):
            return None
    return order[0]


def enter_tree(value, order, waiting):
    """The tree of a value, entered with what has to be read in it; None if there is none."""
    found = taken_apart(value)
    if found is None:
        return None
    inner, marks = found
    tree = Tree(value, marks)
    order.append(tree)
    waiting.extend([(tree, part) for part in reversed(inner)])
    return tree


def is_counted(tree):
    """Whether a tree has an item for each return where it should; it then knows its own returns."""
    if tree.word in ("name", "number", "fun"):
        return True
    if tree.word in ("keep", "def"):
        return is_counted_last(tree)
    if tree.word == "show":
        tree.many = tree.trees[0].many
        return len(tree.marks) == tree.many
    if len(tree.last()) != tree.trees[0].many:
        return False
    if tree.word in ("call", "work"):
        return is_counted_items(tree)
    tree.many = sum([inner.many for inner in tree.last()])
    return True


def is_counted_last(tree):
    """As is_counted, of a keep or def."""
    inner = tree.trees[-1]
    if inner is None:
        return False
    tree.many = inner.many + tree.marks if tree.word == "keep" else inner.many
    return True


def is_counted_items(tree):
    """As is_counted, of a call or work, whose rows have an item for each return of their trees."""
    tree.many = 0
    for inner, items in zip(tree.last(), tree.marks):
        if len(items) != inner.many:
            return False
        if tree.word == "work":
            tree.many += len(items)
        else:
            tree.many += sum([act[2] for act in items if act[0] == "called"])
    return True


def all_trees(tree):
    """A tree and all trees in it, each ahead of those in it, from left to right."""
    found = []
    waiting = [tree]
    while waiting:
        tree = waiting.pop()
        found.append(tree)
        waiting.extend([inner for inner in reversed(tree.trees) if inner is not None])
    return found


def lines_of(tree):
    """The counts of the lines of a tree."""
    counts = no_counts()
    for part in all_trees(tree):
        add_lines(part, counts)
    return counts


def add_lines(tree, counts):
    """Add to the counts the lines that a tree has itself, those of the trees in it left out."""
    if tree.word == "name":
        counts["look"] += 1
    elif tree.word in ("number", "fun"):
        counts["hold"] += 1
    elif tree.word == "pair":
        counts["hold"] += tree.many
    elif tree.word in ("keep", "def"):
        counts[tree.word] += 1
    elif tree.word in ("work", "show"):
        counts[tree.word] += tree.many
    elif tree.word == "call":
        for acts in tree.marks:
            for act in acts:
                counts["call" if act[0] == "called" else "enter"] += 1
    else:
        counts[tree.word] += len(tree.last())
