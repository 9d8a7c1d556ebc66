"""Programs given plain names: those of the row a, b, .., in the order in which they are bound."""

from returnsdue.namerow import name_at
from returnsdue.shapes import BINDERS, PARTS, SCOPES


class Namer:
    """How many names have been given so far."""

    def __init__(self):
        self.given_so_far = 0

    def next_name(self):
        """The next name of the row."""
        self.given_so_far += 1
        return name_at(self.given_so_far - 1)

    def named(self, e, names):
        """An expression whose free names are exchanged by a dict, and whose bound ones are plain."""
        word = e[0]
        if word == "name":
            return ("name", names[e[1]])
        items = list(e)
        for at in BINDERS[word]:
            items[at] = self.next_name()
        for at in PARTS[word]:
            inner = dict(names)
            for binder, part in SCOPES[word]:
                if part == at:
                    inner[e[binder]] = items[binder]
            items[at] = self.named(e[at], inner)
        return tuple(items)


def plainly_named(program):
    """A program with plain names."""
    return Namer().named(program, {})
