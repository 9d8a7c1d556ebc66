"""The nodes of a program, each with its path, its parts and its free names."""

from returnsdue.shapes import PARTS, names_told


class Node:
    """An expression where it stands in a program; parts is a dict from indexes to nodes."""

    def __init__(self, expression, path, parts):
        self.expression = expression
        self.word = expression[0]
        self.path = path
        self.parts = parts
        self.free = self.gathered()

    def gathered(self):
        """The ascending tuple of the free names."""
        if self.word == "name":
            return (self.expression[1],)
        found = {}
        for at in self.parts:
            for name in self.free_of(at):
                found[name] = True
        return tuple(sorted(found))

    def free_of(self, at):
        """The free names of the part at an index, without those that are bound there by the node."""
        told = names_told(self.expression, at)
        return tuple([name for name in self.parts[at].free if name not in told])


def planted(expression, path=()):
    """The node of an expression at a path, with the nodes of all its parts."""
    parts = {}
    for at in PARTS[expression[0]]:
        parts[at] = planted(expression[at], (*path, at))
    return Node(expression, path, parts)
