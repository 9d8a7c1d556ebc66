"""A second reading of what the document says of code, written plainly.

Ways goes through a block way by way. CodeReference runs code row by row, tells its store at each
moment, and lets go of what nobody holds by counting alone.
"""

from tests.reference import LIMIT, worked

KINDS = {
    "slot": "look", "held": "look", "self": "look", "number": "hold", "fun": "hold", "pair": "hold", "def": "def",
    "let": "let", "open": "open", "choose": "choose", "work": "work", "show": "show", "keep": "keep", "keeplast": "keep",
}


class Ways:
    """All ways through a block: how many there are, whether each fits, and how they come to each place."""

    def __init__(self, code, at):
        self.rows = code[at][2]
        self.many = 0
        self.fit = True
        self.met = [set() for _ in self.rows]
        self.go(0, 0, frozenset([0] if at else []))

    def end(self, fit):
        self.many += 1
        self.fit = self.fit and fit

    def go(self, place, height, slots):
        if place >= len(self.rows):
            return self.end(False)
        self.met[place].add((height, slots))
        row = self.rows[place]
        word = row[0]
        least = {"let": 1, "open": 1, "choose": 1, "show": 1, "pair": 2, "work": 2, "call": 2}.get(word, 0)
        just = {"last": 2, "return": 1, "keeplast": 0}.get(word, height)
        needed = [row[1]] if word in ("slot", "drop") else []
        if word in ("fun", "def"):
            needed = [pick[1] for pick in row[2] if pick[0] == "slot"]
        if height < least or height != just or not set(needed) <= slots:
            return self.end(False)
        if word in ("last", "return"):
            return self.end(True)
        if word == "go":
            return self.go(row[1], height, slots)
        if word == "choose":
            self.go(place + 1, height - 1, slots)
            return self.go(row[1], height - 1, slots)
        if word == "keep":
            self.go(place + 1, 0, slots | {row[1]})
            return self.go(row[2], height + 1, slots)
        if word in ("number", "slot", "held", "self", "fun"):
            height += 1
        elif word in ("pair", "work", "call", "let", "open"):
            height -= 1
        if word in ("let", "keeplast"):
            slots = slots | {row[1]}
        elif word == "open":
            slots = slots | {row[1], row[2]}
        elif word == "def":
            slots = slots | {row[3]}
        elif word == "drop":
            slots = slots - {row[1]}
        return self.go(place + 1, height, slots)

    def heights(self):
        return [min(height for height, _ in met) if met else None for met in self.met]

    def sets(self):
        return [tuple(sorted(frozenset.intersection(*[slots for _, slots in met]))) if met else None for met in self.met]


class CodeReference:
    """Tells stores, reached, held, given by moments; kinds, shown, end."""

    def __init__(self, code, most):
        self.code = code
        self.frames = {}
        self.things = {}
        self.alive = {"frame": {}, "thing": {}}
        self.gone = set()
        self.top = None
        self.running = [0, 0, {}, [], None]
        self.result = None
        self.end = None
        self.shown = []
        self.kinds = []
        self.given = {}
        self.stores, self.held, self.shown_at = [], [], []
        self.silent()
        while self.end is None and len(self.kinds) < most:
            self.row()
            self.count()
            self.silent()

    def thing(self, *row):
        self.things[len(self.things)] = row
        return ("thing", len(self.things) - 1)

    def sort(self, worth):
        return worth[0] if worth[0] == "number" else self.things[worth[1]][0]

    def put_up(self, place):
        block, _, slots, pile, own = self.running
        self.frames[len(self.frames)] = (block, place, tuple(sorted(slots.items())), tuple(pile), own, self.top)
        self.top = len(self.frames) - 1

    def give(self, worth):
        if self.top is None:
            self.result = worth
            self.end = worth if worth[0] == "number" else (self.sort(worth),)
            return
        self.given[self.top] = self.given.get(self.top, 0) + 1
        block, place, slots, pile, own, below = self.frames[self.top]
        self.running = [block, place, dict(slots), list(pile) + [worth], own]
        self.top = below

    def next_row(self):
        return self.code[self.running[0]][2][self.running[1]]

    def silent(self):
        """Rows that are no steps; then the moment is told."""
        while self.end is None and self.next_row()[0] in ("go", "drop", "return"):
            row = self.next_row()
            if row[0] == "go":
                self.running[1] = row[1]
            elif row[0] == "drop":
                self.running[2].pop(row[1])
                self.running[1] += 1
            else:
                self.give(self.running[3].pop())
            self.count()
        if self.end is None and self.is_stuck():
            self.end = ("stuck",)
        self.stores.append(self.store())
        self.held.append(({**self.alive["frame"]}, {**self.alive["thing"]}))
        self.shown_at.append(tuple(self.shown))

    def is_stuck(self):
        row = self.next_row()
        pile = self.running[3]
        if row[0] == "open":
            return self.sort(pile[-1]) != "pair"
        if row[0] in ("choose", "show"):
            return pile[-1][0] != "number"
        if row[0] == "work":
            if pile[-1][0] != "number" or pile[-2][0] != "number":
                return True
            return abs(worked(row[1], pile[-2][1], pile[-1][1])) >= LIMIT
        if row[0] in ("call", "last"):
            return self.sort(pile[-2]) not in ("function", "kept")
        return False

    def reach(self, row):
        if row[0] == "slot":
            return self.running[2][row[1]]
        if row[0] == "held":
            return self.things[self.running[4]][2][row[1]]
        return ("thing", self.running[4])

    def row(self):
        row = self.next_row()
        word = row[0]
        self.running[1] += 1
        _, _, slots, pile, _ = self.running
        kind = KINDS.get(word)
        if word == "number":
            pile.append(row)
        elif word in ("slot", "held", "self"):
            pile.append(self.reach(row))
        elif word == "fun":
            pile.append(self.thing("function", row[1], tuple(self.reach(pick) for pick in row[2])))
        elif word == "def":
            slots[row[3]] = self.thing("function", row[1], tuple(self.reach(pick) for pick in row[2]))
        elif word == "let":
            slots[row[1]] = pile.pop()
        elif word == "open":
            _, slots[row[1]], slots[row[2]] = self.things[pile.pop()[1]]
        elif word == "choose":
            if pile.pop()[1] == 0:
                self.running[1] = row[1]
        elif word == "pair":
            pile[-2:] = [self.thing("pair", *pile[-2:])]
        elif word == "work":
            pile[-2:] = [("number", worked(row[1], pile[-2][1], pile[-1][1]))]
        elif word == "show":
            self.shown.append(pile[-1][1])
        elif word in ("keep", "keeplast"):
            if word == "keep":
                self.put_up(row[2])
                self.running[3] = []
            slots[row[1]] = self.thing("kept", self.top)
        else:
            kind = self.call(word)
        self.kinds.append(kind)

    def call(self, word):
        argument = self.running[3].pop()
        called = self.running[3].pop()
        row = self.things[called[1]]
        if row[0] == "kept":
            self.top = row[1]
            self.give(argument)
            return "enter"
        if word == "call":
            self.put_up(self.running[1])
        self.running = [row[1], 0, {0: argument}, [], called[1]]
        return "call"

    def told_running(self):
        if self.result is not None:
            return ("end", self.result)
        block, place, slots, pile, own = self.running
        return (block, place, tuple(sorted(slots.items())), tuple(pile), own)

    def store(self):
        return (self.told_running(), self.top, dict(self.frames), dict(self.things))

    def has(self, row, own, below):
        """What a row of running, of frames or of things has: pairs of word and birth, one for each place."""
        found = []
        waiting = [row]
        while waiting:
            item = waiting.pop()
            if isinstance(item, tuple) and len(item) == 2 and item[0] == "thing":
                found.append(item)
            elif isinstance(item, tuple):
                waiting.extend(item)
        found += [("thing", own)] if own is not None else []
        return found + ([("frame", below)] if below is not None else [])

    def has_first(self):
        if self.result is not None:
            return self.has((self.result,), None, self.top)
        _, _, slots, pile, own = self.told_running()
        return self.has((slots, pile), own, self.top)

    def has_made(self, word, birth):
        if word == "frame":
            _, _, slots, pile, own, below = self.frames[birth]
            return self.has((slots, pile), own, below)
        row = self.things[birth]
        return self.has((), None, row[1]) if row[0] == "kept" else self.has((row[-1],) if row[0] == "function" else row, None, None)

    def count(self):
        """Behind each row: count anew who holds what, and let go of what nobody holds, till all is held."""
        born = {"frame": self.frames, "thing": self.things}
        while True:
            many = {"frame": {}, "thing": {}}
            for word in many:
                for birth in born[word]:
                    if (word, birth) not in self.gone:
                        many[word][birth] = 0
            holding = self.has_first()
            for word in many:
                for birth in many[word]:
                    holding = holding + self.has_made(word, birth)
            for word, birth in holding:
                many[word][birth] += 1
            nobody = [(word, birth) for word in many for birth in many[word] if many[word][birth] == 0]
            if not nobody:
                break
            self.gone |= set(nobody)
        self.alive = many

    def reached(self, moment):
        """What is reached in the store of a moment, walked from running and the top."""
        running, top, frames, things = self.stores[moment]
        seen = {("frame", top)} if top is not None else set()
        waiting = list(seen)
        first = (running[1],) if running[0] == "end" else running[2:4]
        more = self.has(first, None if running[0] == "end" else running[4], None)
        while waiting or more:
            for item in more:
                if item not in seen:
                    seen.add(item)
                    waiting.append(item)
            more = self.has_made(*waiting.pop()) if waiting else []
        return tuple(tuple(sorted(birth for word, birth in seen if word == wanted)) for wanted in ("frame", "thing"))
