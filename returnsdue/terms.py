"""Expressions: whether a value is one, its names, paths and parts, and exchanges in it."""

from returnsdue.errors import BadExpression, BadName, BadPath, BadProgram, NoName
from returnsdue.shapes import BINDERS, KEPT_WORDS, LENGTHS, PARTS, SCOPES, names_bound, names_told
from returnsdue.wholes import WORKS, is_number, is_whole

LETTERS = "abcdefghijklmnopqrstuvwxyz"
MOST_LETTERS = 8
MOST_NODES = 400
MOST_ROW = 60


def is_name(value):
    """Whether any value is a name."""
    if not isinstance(value, str) or not 1 <= len(value) <= MOST_LETTERS:
        return False
    for letter in value:
        if letter not in LETTERS:
            return False
    return value not in KEPT_WORDS


def is_node(value):
    """Whether value is built as a node is, whatever stands in the places of its parts."""
    if not isinstance(value, tuple) or not value or not isinstance(value[0], str):
        return False
    word = value[0]
    if word not in LENGTHS or len(value) != LENGTHS[word]:
        return False
    if word == "name":
        return is_name(value[1])
    if word == "number":
        return is_number(value[1])
    if word == "work":
        return value[1] in WORKS
    return are_binders(names_bound(value))


def are_binders(names):
    """Whether these are names of which no two are equal."""
    for at, name in enumerate(names):
        if not is_name(name) or name in names[:at]:
            return False
    return True


def is_expression(value):
    """Whether any value is an expression."""
    waiting = [(value, 1)]
    nodes = 0
    while waiting:
        part, row = waiting.pop()
        nodes += 1
        if nodes > MOST_NODES or row > MOST_ROW or not is_node(part):
            return False
        for at in PARTS[part[0]]:
            waiting.append((part[at], row + 1))
    return True


def is_program(value):
    """Whether any value is an expression without free names."""
    return is_expression(value) and not free_in(value)


def check_expression(value):
    """Refuse what is no expression."""
    if not is_expression(value):
        raise BadExpression("this is no expression")


def check_program(value):
    """Refuse what is no program."""
    if not is_program(value):
        raise BadProgram("this is no program")


def check_path(expression, path):
    """Refuse what leads to no expression in this one."""
    if not is_leading(expression, path):
        raise BadPath("this path leads to no expression")


def is_leading(expression, path):
    """Whether any value is a path to an expression in this one."""
    if not isinstance(path, tuple):
        return False
    for at in path:
        if not is_whole(at) or at not in PARTS[expression[0]]:
            return False
        expression = expression[at]
    return True


def free_in(expression):
    """The ascending list of the names that are free in an expression."""
    found = {}
    gather_free(expression, (), found)
    return sorted(found)


def gather_free(expression, bound, found):
    """Enter the names of an expression that are not among those bound around it."""
    if expression[0] == "name" and expression[1] not in bound:
        found[expression[1]] = True
    for at in PARTS[expression[0]]:
        gather_free(expression[at], bound + names_told(expression, at), found)


def free_names(expression):
    """The ascending list of the free names of an expression."""
    check_expression(expression)
    return free_in(expression)


def paths(expression):
    """The ascending list of the paths to all expressions in one."""
    check_expression(expression)
    return paths_in(expression)


def paths_in(expression):
    """The ascending list of the paths to all expressions in one that is known to be one."""
    found = [()]
    for at in PARTS[expression[0]]:
        found.extend([(at, *path) for path in paths_in(expression[at])])
    return found


def part_led_to(expression, path):
    """The expression to which a path leads."""
    for at in path:
        expression = expression[at]
    return expression


def part_at(expression, path):
    """The expression to which a path leads in an expression."""
    check_expression(expression)
    check_path(expression, path)
    return part_led_to(expression, path)


def put(expression, path, part):
    """An expression with part at path, whether an expression comes of it or not."""
    made = part
    for many in reversed(range(len(path))):
        around = part_led_to(expression, path[:many])
        at = path[many]
        made = around[:at] + (made,) + around[at + 1:]
    return made


def with_part(expression, path, part):
    """An expression with part in the place of the one at path."""
    check_expression(expression)
    check_path(expression, path)
    check_expression(part)
    made = put(expression, path, part)
    check_expression(made)
    return made


def names_standing(expression):
    """A dict with all names that stand anywhere in an expression."""
    found = {}
    for path in paths_in(expression):
        part = part_led_to(expression, path)
        if part[0] == "name":
            found[part[1]] = True
        for name in names_bound(part):
            found[name] = True
    return found


def with_name(expression, old, name):
    """An expression in which name stands wherever old is free."""
    if expression[0] == "name":
        return ("name", name) if expression[1] == old else expression
    items = list(expression)
    for at in PARTS[expression[0]]:
        if old not in names_told(expression, at):
            items[at] = with_name(expression[at], old, name)
    return tuple(items)


def rebound(node, old, name):
    """A node that binds name in the place of old."""
    items = list(node)
    for at, part in SCOPES[node[0]]:
        if node[at] == old:
            items[part] = with_name(node[part], old, name)
    for at in BINDERS[node[0]]:
        if node[at] == old:
            items[at] = name
    return tuple(items)


def renamed(expression, path, old, name):
    """An expression in which the node at path binds name in the place of old."""
    check_expression(expression)
    check_path(expression, path)
    node = part_led_to(expression, path)
    if not names_bound(node):
        raise BadPath("the path leads to a node that binds no name")
    if not is_name(old) or old not in names_bound(node):
        raise NoName("the node does not bind this name")
    if not is_name(name) or name in names_standing(expression):
        raise BadName("this is no name, or it stands in the expression")
    return put(expression, path, rebound(node, old, name))


def alike(one, other):
    """Whether two expressions are the same but for bound names."""
    check_expression(one)
    check_expression(other)
    return are_alike(one, other, {}, {}, 0)


def are_alike(one, other, marks, other_marks, row):
    """Whether two expressions are alike where names stand for the marks of what binds them."""
    word = one[0]
    if word != other[0]:
        return False
    if word == "name":
        return is_same_name(one[1], other[1], marks, other_marks)
    if word == "number" or word == "work":
        if one[1] != other[1]:
            return False
    for at in PARTS[word]:
        inner = marks_within(one, at, marks, row)
        other_inner = marks_within(other, at, other_marks, row)
        if not are_alike(one[at], other[at], inner, other_inner, row + 1):
            return False
    return True


def is_same_name(one, other, marks, other_marks):
    """Whether two names have the same mark, or are the same free name."""
    if one in marks or other in other_marks:
        return marks.get(one) == other_marks.get(other)
    return one == other


def marks_within(node, part, marks, row):
    """The marks of names in a part of a node: the row and the place of what binds them."""
    inner = dict(marks)
    for at, told in SCOPES[node[0]]:
        if told == part:
            inner[node[at]] = (row, at)
    return inner
