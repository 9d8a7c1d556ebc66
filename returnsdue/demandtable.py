"""A table that numbers demands, so that two demands are equal exactly if their numbers are.

Uses are told here as tuples of these numbers, returns as tuples of such tuples. So demands that
stand deep in one another, or often, are compared and kept at no cost.
"""

from returnsdue.demands import uses_within


class Demands:
    """The demands met so far: keys by numbers, and the demands themselves."""

    def __init__(self):
        self.numbers = {}
        self.rows = []
        self.demands = []

    def number_of(self, key, demand):
        """The number of a demand, told by a key that has numbers in the places of demands."""
        if key not in self.numbers:
            self.numbers[key] = len(self.rows)
            self.rows.append(key)
            self.demands.append(demand)
        return self.numbers[key]

    def reading(self, number):
        """The demand that a worth is read as this number."""
        return self.number_of(("number", number), ("number", number))

    def calling(self, uses, returns):
        """The demand of a call."""
        return self.number_of(("call", uses, returns), ("call", self.told(uses), self.told_returns(returns)))

    def entering(self, uses):
        """The demand of an entry."""
        return self.number_of(("enter", uses), ("enter", self.told(uses)))

    def opening(self, one, other):
        """The demand that a pair is opened."""
        return self.number_of(("open", one, other), ("open", self.told(one), self.told(other)))

    def ending(self, end):
        """The demand that a worth ends the run."""
        return self.number_of(("end", end), ("end", end))

    def told(self, uses):
        """The uses with these numbers."""
        return tuple([self.demands[number] for number in uses])

    def told_returns(self, returns):
        """The returns with these numbers."""
        return tuple([self.told(uses) for uses in returns])

    def entered(self, demand, within):
        """The number of a demand in which these uses stand."""
        if demand[0] == "call":
            return self.calling(within[0], tuple(within[1:]))
        if demand[0] == "enter":
            return self.entering(within[0])
        if demand[0] == "open":
            return self.opening(within[0], within[1])
        return self.number_of(demand, demand)

    def read(self, uses):
        """The numbers of the demands of uses, those within them entered first."""
        order = list(uses)
        spans = []
        while len(spans) < len(order):
            within = []
            found = uses_within(order[len(spans)])
            for inner in found:
                within.append((len(order), len(order) + len(inner)))
                order.extend(inner)
            spans.append(within)
        numbers = [0] * len(order)
        for at in reversed(range(len(order))):
            within = [tuple(numbers[start:stop]) for start, stop in spans[at]]
            numbers[at] = self.entered(order[at], within)
        return tuple(numbers[:len(uses)])

    def read_returns(self, returns):
        """The numbers of the demands of returns."""
        return tuple([self.read(uses) for uses in returns])
