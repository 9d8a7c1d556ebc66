"""Whether trees are bills: of which expression, for which returns, and with which needs.

Uses, returns and needs are told by the numbers of a table of demands. A function that fits a
tree returns its needs, or None if the tree is no bill.
"""

from returnsdue.demands import is_good_end
from returnsdue.errors import BadBill
from returnsdue.nodes import planted
from returnsdue.shapes import names_bound
from returnsdue.stepper import body_of, name_of
from returnsdue.terms import check_program
from returnsdue.trees import read_tree
from returnsdue.wholes import is_number, worked


def fitted(table, node, tree, returns):
    """The needs of a tree as a bill of a node for returns; the tree then knows all three."""
    if tree.word != node.word or tree.many != len(returns):
        return None
    fit = FITS[tree.word]
    needs = fit(table, node, tree, returns)
    tree.node = node
    tree.returns = returns
    tree.needed = needs
    return needs


def added(several, without):
    """The needs of several ones, each behind the one ahead, without some names."""
    total = {}
    for needs in several:
        for name, uses in needs.items():
            if name not in without:
                total[name] = total.get(name, ()) + uses
    return total


def is_reading(table, uses, number):
    """Whether each of the uses reads this number or ends with it."""
    allowed = (table.reading(number), table.ending(("number", number)))
    for use in uses:
        if use not in allowed:
            return False
    return True


def fit_name(table, node, tree, returns):
    """A name needs what becomes of its worth."""
    return {node.expression[1]: returns[0]} if returns[0] else {}


def fit_number(table, node, tree, returns):
    """A number is read as itself."""
    return {} if is_reading(table, returns[0], node.expression[1]) else None


def fit_kid(table, node, kid, use):
    """The needs of a kid of a fun or def for a demand, that of its name among them."""
    demand = table.rows[use]
    if kid is None:
        return {} if demand == ("end", ("function",)) else None
    if demand[0] != "call":
        return None
    needs = fitted(table, body_of(node), kid, demand[2])
    if needs is None or needs.get(name_of(node), ()) != demand[1]:
        return None
    return needs


def fit_fun(table, node, tree, returns):
    """A function has a kid for each demand."""
    uses = returns[0]
    if len(tree.trees) != len(uses):
        return None
    several = []
    for kid, use in zip(tree.trees, uses):
        needs = fit_kid(table, node, kid, use)
        if needs is None:
            return None
        several.append(needs)
    return added(several, (name_of(node),))


def fit_def(table, node, tree, returns):
    """A def has a kid for each demand that its last part, or a kid ahead, has for its function."""
    itself = node.expression[1]
    last = fitted(table, node.parts[4], tree.trees[-1], returns)
    if last is None:
        return None
    row = list(last.get(itself, ()))
    several = []
    for at, kid in enumerate(tree.trees[:-1]):
        needs = fit_kid(table, node, kid, row[at]) if at < len(row) else None
        if needs is None:
            return None
        row.extend(needs.get(itself, ()))
        several.append(needs)
    if len(row) != len(several):
        return None
    return added([added([last], (itself,)), added(several, (itself, name_of(node)))], ())


def fit_keep(table, node, tree, returns):
    """A keep returns as its part, and once for each entry of its place."""
    first = len(returns) - tree.marks
    needs = fitted(table, node.parts[2], tree.trees[0], returns[:first])
    if needs is None:
        return None
    entered = []
    for use in needs.get(node.expression[1], ()):
        demand = table.rows[use]
        if demand[0] == "enter":
            entered.append(demand[1])
        elif demand != ("end", ("kept",)):
            return None
    if tuple(entered) != returns[first:]:
        return None
    return added([needs], (node.expression[1],))


def fit_first(table, node, tree, first_uses, several):
    """The needs of the first tree of a node with rows, whose returns are so used, ahead of others."""
    at = 2 if node.word in ("let", "work") else 1
    needs = fitted(table, node.parts[at], tree.trees[0], tuple(first_uses))
    if needs is None:
        return None
    return added([needs, *several], ())


def fit_call(table, node, tree, returns):
    """Each act of a call is a demand of what is called."""
    first_uses = []
    several = []
    at = 0
    for inner, acts in zip(tree.last(), tree.marks):
        arguments = tuple([table.read(act[1]) for act in acts])
        needs = fitted(table, node.parts[2], inner, arguments)
        if needs is None:
            return None
        several.append(needs)
        uses = []
        for act, argument in zip(acts, arguments):
            if act[0] == "entered":
                uses.append(table.entering(argument))
            else:
                uses.append(table.calling(argument, returns[at:at + act[2]]))
                at += act[2]
        first_uses.append(tuple(uses))
    return fit_first(table, node, tree, first_uses, several)


def last_part(node, tree, row):
    """The part of a let, open or choose that is evaluated in a row."""
    if node.word == "choose":
        return node.parts[3 if tree.marks[row] == 0 else 2]
    return node.parts[3 if node.word == "let" else 4]


def uses_of_first(table, node, tree, row, needs):
    """The uses of a return of the first tree of a let, open or choose, by the needs of its row."""
    if node.word == "choose":
        return (table.reading(tree.marks[row]),)
    if node.word == "let":
        return needs.get(node.expression[1], ())
    one, other = node.expression[2:4]
    return (table.opening(needs.get(one, ()), needs.get(other, ())),)


def fit_binding(table, node, tree, returns):
    """The rows of a let, open or choose return one behind the other."""
    first_uses = []
    several = []
    at = 0
    for row, inner in enumerate(tree.last()):
        needs = fitted(table, last_part(node, tree, row), inner, returns[at:at + inner.many])
        if needs is None:
            return None
        at += inner.many
        first_uses.append(uses_of_first(table, node, tree, row, needs))
        several.append(added([needs], names_bound(node.expression)))
    return fit_first(table, node, tree, first_uses, several)


def fit_work(table, node, tree, returns):
    """Each pair of numbers of a work comes to the number that is read."""
    first_uses = []
    several = []
    at = 0
    for inner, pairs in zip(tree.last(), tree.marks):
        for one, other in pairs:
            result = worked(node.expression[1], one, other)
            if not is_number(one) or not is_number(other) or not is_number(result):
                return None
            if not is_reading(table, returns[at], result):
                return None
            at += 1
        needs = fitted(table, node.parts[3], inner, tuple([(table.reading(other),) for _, other in pairs]))
        if needs is None:
            return None
        several.append(needs)
        first_uses.append(tuple([table.reading(one) for one, _ in pairs]))
    return fit_first(table, node, tree, first_uses, several)


def fit_show(table, node, tree, returns):
    """Each number that is shown is read again."""
    first_uses = []
    for number, uses in zip(tree.marks, returns):
        if not is_reading(table, uses, number):
            return None
        first_uses.append((table.reading(number),))
    return fit_first(table, node, tree, first_uses, [])


def parts_of_pair(table, uses):
    """The uses of both parts of a pair; None if it is used otherwise than by opening and ending."""
    one = ()
    other = ()
    for use in uses:
        demand = table.rows[use]
        if demand[0] == "open":
            one = one + demand[1]
            other = other + demand[2]
        elif demand != ("end", ("pair",)):
            return None
    return (one, other)


def fit_pair(table, node, tree, returns):
    """Each return of a row of a pair makes a pair, whose parts are used as it is opened."""
    found = [parts_of_pair(table, uses) for uses in returns]
    if None in found:
        return None
    first_uses = []
    several = []
    at = 0
    for inner in tree.last():
        parts = found[at:at + inner.many]
        needs = fitted(table, node.parts[2], inner, tuple([other for _, other in parts]))
        if needs is None:
            return None
        at += inner.many
        several.append(needs)
        first_uses.append(tuple([use for one, _ in parts for use in one]))
    return fit_first(table, node, tree, first_uses, several)


FITS = {
    "name": fit_name, "number": fit_number, "fun": fit_fun, "def": fit_def, "keep": fit_keep,
    "call": fit_call, "let": fit_binding, "open": fit_binding, "choose": fit_binding,
    "work": fit_work, "show": fit_show, "pair": fit_pair,
}


def fitted_bill(table, program, bill):
    """The tree of the bill of a program; other values are refused."""
    check_program(program)
    tree = fitted_program(table, program, bill)
    if tree is None:
        raise BadBill("this is no bill of the program")
    return tree


def fitted_program(table, program, value):
    """The tree of a value that is a bill of a program, which knows its nodes; None if it is none."""
    if not isinstance(value, tuple) or len(value) != 2 or not is_good_end(value[0]):
        return None
    tree = read_tree(value[1])
    if tree is None:
        return None
    returns = ((table.ending(value[0]),),)
    if fitted(table, planted(program), tree, returns) is None:
        return None
    return tree
