"""Tuples that know how many tuples they are, each counted as often as it stands in them."""


class Sized:
    """A tuple and the number of tuples in it, itself among them."""

    def __init__(self, value, tuples):
        self.value = value
        self.tuples = tuples


def built(items):
    """The sized tuple of these items, some of which are sized tuples themselves."""
    values = []
    tuples = 1
    for item in items:
        if isinstance(item, Sized):
            values.append(item.value)
            tuples += item.tuples
        else:
            values.append(item)
    return Sized(tuple(values), tuples)
