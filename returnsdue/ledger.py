"""The bill of a run, made of its trail from the last row back to the first.

What becomes of a worth, and how often a begun expression returns, lies in the rows of the trail
behind it; and what comes of a row is always told by the very next one. So each row is settled
when all behind it are. A begun expression and a given worth are told here by the place of their
row in the trail.
"""

from returnsdue.shapes import names_bound
from returnsdue.sized import built
from returnsdue.stepper import Runner, Trail, name_of


class Use:
    """A use of a worth: its demand, a sized tuple, and the row of the worth by which it is done."""

    def __init__(self, demand, row):
        self.demand = demand
        self.word = demand.value[0]
        self.row = row


class Ledger:
    """The rows of the trail of a run that is over, settled.

    Of a begun expression: its tree, the rows of the worths that it returns, and its needs, a dict
    from names to lists of uses. Of a given worth: the list of its uses, these as a sized tuple,
    and the act that it makes where it is the worth that something is called with.
    """

    def __init__(self, runner):
        self.runner = runner
        self.log = runner.trail.log
        self.trees = {}
        self.returns = {}
        self.needs = {}
        self.uses = {}
        self.demands = {}
        self.acts = {}
        for row in reversed(range(len(self.log))):
            word, what, worth = self.log[row]
            if word == "begin":
                settle = BEGUN[what.word]
                settle(self, row, what)
            else:
                self.uses[row] = self.uses_given(row, what, worth)
                self.demands[row] = demands_of(self.uses[row])

    def settled(self, row, tree, returns, needs):
        """Enter what has been settled of a begun expression."""
        self.trees[row] = built(tree)
        self.returns[row] = returns
        self.needs[row] = needs

    def number(self, row):
        """The number that is given in a row."""
        return self.log[row][2][1]

    def need(self, row, name):
        """The uses of a name that a begun expression needs."""
        return self.needs[row].get(name, [])

    def kid(self, use):
        """The row of the body begun by a use that is a call; None of another use."""
        return use.row + 1 if use.word == "call" else None

    def uses_of_def(self, row, name):
        """The uses of the function of a def that is begun in a row, those by its kids behind the others."""
        uses = list(self.need(row + 1, name))
        at = 0
        while at < len(uses):
            kid = self.kid(uses[at])
            if kid is not None:
                uses.extend(self.need(kid, name))
            at += 1
        return uses

    def kid_trees(self, kids):
        """The sized tuple of the trees of these kids."""
        return built([None if kid is None else self.trees[kid] for kid in kids])

    def kid_needs(self, kids, without):
        """The needs of these kids, without some names."""
        return together([self.needs[kid] for kid in kids if kid is not None], without)

    def opened(self, uses, at):
        """The uses of the part of a pair that is called by the name at an index of its opens."""
        found = []
        for use in uses:
            if use.word == "open":
                birth = self.log[use.row][1]
                _, node, _, _, _ = self.runner.frames[birth]
                found.extend(self.need(use.row + 1, node.expression[at]))
        return found

    def uses_given(self, row, birth, worth):
        """The uses of the worth that is given in a row."""
        if birth is None:
            end = built(self.runner.ended)
            return [Use(built(["end", end]), row)]
        kind, node, _, held, _ = self.runner.frames[birth]
        uses = GIVEN[kind]
        return uses(self, row, node, held)


def ledger_of(program):
    """The ledger of the whole run of a program, which comes to an end."""
    runner = Runner(program, Trail())
    while runner.step():
        pass
    return Ledger(runner)


def demands_of(uses):
    """The demands of uses as a sized tuple."""
    return built([use.demand for use in uses])


def together(several, without):
    """The needs of several ones, each behind the one ahead, without some names."""
    total = {}
    for needs in several:
        for name, uses in needs.items():
            if name not in without:
                total[name] = total.get(name, []) + uses
    return total


def reading(row, number):
    """The use of a worth that is read as this number."""
    return Use(built(["number", number]), row)


def given_call(ledger, row, node, held):
    """What is called is used as the act of each return of what it is called with."""
    return [ledger.acts[given] for given in ledger.returns[row + 1]]


def given_argument(ledger, row, node, held):
    """What something is called with is used as the body needs it, or as the worth that enters."""
    called = ledger.runner.things[held[1]]
    if called[0] == "kept":
        ledger.acts[row] = Use(built(["enter", ledger.demands[row + 1]]), row)
        return ledger.uses[row + 1]
    uses = ledger.need(row + 1, name_of(called[1]))
    returns = built([ledger.demands[given] for given in ledger.returns[row + 1]])
    ledger.acts[row] = Use(built(["call", demands_of(uses), returns]), row)
    return uses


def given_let(ledger, row, node, held):
    """The worth of a let is used as its last part needs it."""
    return ledger.need(row + 1, node.expression[1])


def given_open(ledger, row, node, held):
    """A pair is opened once."""
    one = demands_of(ledger.need(row + 1, node.expression[2]))
    other = demands_of(ledger.need(row + 1, node.expression[3]))
    return [Use(built(["open", one, other]), row)]


def given_number(ledger, row, node, held):
    """The number of a choose, a show, or the second one of a work is read once."""
    return [reading(row, ledger.number(row))]


def given_work(ledger, row, node, held):
    """The first number of a work is read for each return of the second one."""
    return [reading(row, ledger.number(row)) for _ in ledger.returns[row + 1]]


def given_pair(ledger, row, node, held):
    """The first part of a pair is used as all pairs made of it are opened."""
    found = []
    for given in ledger.returns[row + 1]:
        found.extend(ledger.opened(ledger.uses[given + 1], 2))
    return found


def given_second(ledger, row, node, held):
    """The second part of a pair is used as the pair is opened."""
    return ledger.opened(ledger.uses[row + 1], 3)


GIVEN = {
    "call1": given_call, "call2": given_argument, "let": given_let, "open": given_open,
    "choose": given_number, "show": given_number, "work1": given_work, "work2": given_number,
    "pair1": given_pair, "pair2": given_second,
}


def begun_name(ledger, row, node):
    """A name needs what becomes of its worth."""
    uses = ledger.uses[row + 1]
    ledger.settled(row, ["name"], [row + 1], {node.expression[1]: uses} if uses else {})


def begun_number(ledger, row, node):
    """A number returns once."""
    ledger.settled(row, ["number"], [row + 1], {})


def begun_fun(ledger, row, node):
    """A function has a kid for each of its uses."""
    kids = [ledger.kid(use) for use in ledger.uses[row + 1]]
    tree = ["fun", ledger.kid_trees(kids)]
    ledger.settled(row, tree, [row + 1], ledger.kid_needs(kids, (name_of(node),)))


def begun_def(ledger, row, node):
    """A def has a kid for each use of its function."""
    itself = node.expression[1]
    kids = [ledger.kid(use) for use in ledger.uses_of_def(row, itself)]
    last = together([ledger.needs[row + 1]], (itself,))
    needs = together([last, ledger.kid_needs(kids, (itself, name_of(node)))], ())
    tree = ["def", ledger.kid_trees(kids), ledger.trees[row + 1]]
    ledger.settled(row, tree, ledger.returns[row + 1], needs)


def begun_keep(ledger, row, node):
    """A keep returns as its part, then by the entries of its place, as the part needs them."""
    name = node.expression[1]
    entered = [use.row + 1 for use in ledger.need(row + 1, name) if use.word == "enter"]
    tree = ["keep", len(entered), ledger.trees[row + 1]]
    ledger.settled(row, tree, ledger.returns[row + 1] + entered, together([ledger.needs[row + 1]], (name,)))


def begun_call(ledger, row, node):
    """A call has a row for each return of what is called, with an act for each of its argument."""
    rows = []
    returns = []
    several = [ledger.needs[row + 1]]
    for given in ledger.returns[row + 1]:
        acts = []
        for argument in ledger.returns[given + 1]:
            if ledger.acts[argument].word == "enter":
                acts.append(built(["entered", ledger.demands[argument]]))
            else:
                back = ledger.returns[argument + 1]
                acts.append(built(["called", ledger.demands[argument], len(back)]))
                returns.extend(back)
        rows.append(built([ledger.trees[given + 1], built(acts)]))
        several.append(ledger.needs[given + 1])
    tree = ["call", ledger.trees[row + 1], built(rows)]
    ledger.settled(row, tree, returns, together(several, ()))


def begun_binding(ledger, row, node):
    """A let, open or choose has a row for each return of its first part."""
    bound = names_bound(node.expression)
    rows = []
    returns = []
    several = [ledger.needs[row + 1]]
    for given in ledger.returns[row + 1]:
        tree = ledger.trees[given + 1]
        rows.append(built([ledger.number(given), tree]) if node.word == "choose" else tree)
        returns.extend(ledger.returns[given + 1])
        several.append(together([ledger.needs[given + 1]], bound))
    tree = [node.word, ledger.trees[row + 1], built(rows)]
    ledger.settled(row, tree, returns, together(several, ()))


def begun_both(ledger, row, node):
    """A work or pair has a row for each return of its first part, and returns by its second one."""
    rows = []
    returns = []
    several = [ledger.needs[row + 1]]
    for given in ledger.returns[row + 1]:
        back = ledger.returns[given + 1]
        tree = ledger.trees[given + 1]
        pairs = [built([ledger.number(given), ledger.number(other)]) for other in back] if node.word == "work" else []
        rows.append(built([tree, built(pairs)]) if node.word == "work" else tree)
        returns.extend([other + 1 for other in back])
        several.append(ledger.needs[given + 1])
    tree = [node.word, ledger.trees[row + 1], built(rows)]
    ledger.settled(row, tree, returns, together(several, ()))


def begun_show(ledger, row, node):
    """A show has a number for each return of its part."""
    given = ledger.returns[row + 1]
    tree = ["show", ledger.trees[row + 1], built([ledger.number(at) for at in given])]
    ledger.settled(row, tree, [at + 1 for at in given], ledger.needs[row + 1])


BEGUN = {
    "name": begun_name, "number": begun_number, "fun": begun_fun, "def": begun_def, "keep": begun_keep,
    "call": begun_call, "let": begun_binding, "open": begun_binding, "choose": begun_binding,
    "work": begun_both, "pair": begun_both, "show": begun_show,
}
