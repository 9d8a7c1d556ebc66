"""Bills judged: how often trees return, their lines and needs, and whether they are bills."""

from returnsdue.demandtable import Demands
from returnsdue.demands import is_returns
from returnsdue.errors import BadReturns, BadTree
from returnsdue.fitting import fitted, fitted_program
from returnsdue.nodes import planted
from returnsdue.terms import check_expression, check_program
from returnsdue.trees import lines_of, read_tree


def is_tree(value):
    """Whether any value is built as the trees of bills are."""
    return read_tree(value) is not None


def many(tree):
    """How often a tree returns."""
    return tree_read(tree).many


def lines(tree):
    """The counts of the lines of a tree."""
    return lines_of(tree_read(tree))


def tree_read(value):
    """The tree that a value is built as; refused if it is none."""
    tree = read_tree(value)
    if tree is None:
        raise BadTree("this is not built as a tree")
    return tree


def needs(expression, returns, tree):
    """What a tree needs as a bill of an expression for returns; None if it is none."""
    check_expression(expression)
    if not is_returns(returns):
        raise BadReturns("these are no returns")
    found = read_tree(tree)
    if found is None:
        return None
    table = Demands()
    needed = fitted(table, planted(expression), found, table.read_returns(returns))
    if needed is None:
        return None
    return told_needs(table, needed)


def told_needs(table, needed):
    """Needs with the demands themselves in the places of their numbers, names ascending."""
    return {name: table.told(needed[name]) for name in sorted(needed)}


def is_bill(program, value):
    """Whether any value is a bill of a program."""
    check_program(program)
    return fitted_program(Demands(), program, value) is not None
