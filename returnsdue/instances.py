"""The bills that stand in the bill of a program, and parts of it exchanged."""

from returnsdue.billing import bill
from returnsdue.demandtable import Demands
from returnsdue.errors import BadExpression, NoBill, Unlike
from returnsdue.fitting import fitted_program
from returnsdue.terms import check_expression, check_path, check_program, is_program, paths, put
from returnsdue.trees import all_trees, lines_of


def billed(program):
    """The bill of a program; refused if there is none."""
    found = bill(program)
    if found is None:
        raise NoBill("the run of the program is stuck")
    return found


def instances(program, path):
    """The bills of the expression at path that stand in the bill of a program."""
    check_program(program)
    check_path(program, path)
    table = Demands()
    tree = fitted_program(table, program, billed(program))
    return [told_instance(table, part) for part in all_trees(tree) if part.node.path == path]


def told_instance(table, tree):
    """The triple of the returns, needs and value of a tree."""
    needs = {name: table.told(tree.needed[name]) for name in sorted(tree.needed)}
    return (table.told_returns(tree.returns), needs, tree.value)


def profile(program):
    """How many bills of each expression of a program stand in its bill."""
    check_program(program)
    tree = fitted_program(Demands(), program, billed(program))
    many = {path: 0 for path in paths(program)}
    for part in all_trees(tree):
        many[part.node.path] += 1
    return many


def exchanged(program, path, part):
    """The bill with part at path, and how many lines it has more, if all else in it stays."""
    check_program(program)
    check_path(program, path)
    check_expression(part)
    made = put(program, path, part)
    if not is_program(made):
        raise BadExpression("no program comes of the exchange")
    table = Demands()
    old = fitted_program(table, program, billed(program))
    found = billed(made)
    new = fitted_program(table, made, found)
    if not is_like(table, old, new, path):
        raise Unlike("the bill changes outside of the part")
    return (found, many_lines(new) - many_lines(old))


def many_lines(tree):
    """How many lines a tree has."""
    return sum(list(lines_of(tree).values()))


def marks_told(table, tree):
    """What a tree has beside the trees in it, with the numbers of its demands."""
    if tree.word != "call":
        return tree.marks
    return [[(act[0], table.read(act[1]), act[2:]) for act in acts] for acts in tree.marks]


def is_like(table, old, new, path):
    """Whether two bills are the same but for those at path, which have equal returns and needs."""
    waiting = [(old, new)]
    while waiting:
        one, other = waiting.pop()
        if one.node.path == path:
            if one.returns != other.returns or one.needed != other.needed:
                return False
        elif one.word != other.word or marks_told(table, one) != marks_told(table, other):
            return False
        elif len(one.trees) != len(other.trees):
            return False
        else:
            waiting.extend([pair for pair in zip(one.trees, other.trees) if pair[0] is not None])
    return True
