"""Codes for the tests: those of programs, and many that are the code of no program, made by a seed."""

import random

from returnsdue.codes import is_code
from returnsdue.compiler import compiled
from returnsdue.loader import fits
from returnsdue.terms import is_program
from tests.programs import BY_HAND, ENDLESS, STUCK, random_programs, returning_programs

WORKS = ("plus", "minus", "times", "less", "same")


class Maker:
    """A block made row by row so that it fits; forks are jumps whose place is not told yet.

    pile and set tell the sorts of the worths on the pile and in the slots that are set, "?" where
    they are not known, so that not too many runs are stuck at once; pile is None where no way comes.
    """

    def __init__(self, r, blocks, at):
        self.r = r
        self.blocks = blocks
        self.at = at
        self.slots = r.randint(1, 4)
        self.rows = []
        self.forks = []
        self.pile = []
        self.set = {0: "?"} if at else {}
        for _ in range(r.randint(3, 16)):
            self.more()
        self.finish()

    def is_sort(self, depth, sorts):
        found = self.pile[-depth]
        return found in sorts or self.r.random() < (0.25 if found == "?" else 0.02)

    def more(self):
        if self.pile is None:
            return self.behind_an_end()
        if self.forks and self.r.random() < 0.3:
            self.join()
        height = len(self.pile)
        words = ["number"] * 3 + ["fun", "fun", "def"] + (["slot"] * 4 + ["drop"] if self.set else [])
        words += ["self"] * 2 if self.at else []
        words += ["held"] * 2 if self.blocks[self.at] else []
        words += ["keep", "keeplast", "keeplast"] if not height else ["keep"]
        words += ["go"] if len(self.rows) > 3 else []
        words += {1: ["return"], 2: ["last"] * 2}.get(height, [])
        if height:
            words += ["let"] * 3 + (["choose", "choose", "show"] if self.is_sort(1, "n") else [])
            words += ["open"] * 2 if self.slots > 1 and self.is_sort(1, "p") else []
        if height > 1:
            words += ["pair"] + (["call"] * 4 if self.is_sort(2, "fk") else [])
            words += ["work"] * 2 if self.is_sort(1, "n") and self.is_sort(2, "n") else []
        self.add(self.r.choice(words))

    def pick(self):
        ways = [("slot", i) for i in sorted(self.set)] + [("held", h) for h in range(self.blocks[self.at])]
        ways += [("self",)] if self.at else []
        return self.r.choice(ways) if ways else None

    def picks(self):
        """A block that is not block 0, and picks for it; None if there is none."""
        able = [b for b in range(1, len(self.blocks)) if not self.blocks[b] or self.pick()]
        if not able:
            return None
        b = self.r.choice(able)
        return b, tuple(self.pick() for _ in range(self.blocks[b]))

    def add(self, word):
        found = self.picks() if word in ("fun", "def") else None
        if word in ("fun", "def") and found is None:
            word = "number"
        i = self.r.randrange(self.slots)
        if word in ("slot", "drop"):
            i = self.r.choice(sorted(self.set))
        more = {
            "number": lambda: (self.r.choice([0, 0, 1, 2, -1, 10 ** 30 - 1]),), "fun": lambda: found,
            "def": lambda: (*found, i), "held": lambda: (self.r.randrange(self.blocks[self.at]),),
            "open": lambda: tuple(self.r.sample(range(self.slots), 2)), "work": lambda: (self.r.choice(WORKS),),
        }.get(word, lambda: (i,) if word in ("slot", "drop", "let", "keep", "keeplast") else ())()
        self.rows.append((word, *more))
        self.change(word, self.rows[-1])

    def change(self, word, row):
        """What is so behind the row that was put there last."""
        if word in ("choose", "go", "keep"):
            pile = {"choose": self.pile[:-1], "go": self.pile, "keep": self.pile + ["?"]}[word]
            self.forks.append((len(self.rows) - 1, list(pile), dict(self.set)))
        taken = {"let": 1, "open": 1, "choose": 1, "pair": 2, "work": 2, "call": 2}.get(word, 0)
        self.pile, away = self.pile[:len(self.pile) - taken], self.pile[len(self.pile) - taken:]
        put = {"number": "n", "held": "?", "self": "f", "fun": "f", "pair": "p", "work": "n", "call": "?"}.get(word)
        self.pile += [put] if put else [self.set[row[1]]] if word == "slot" else []
        if word == "keep":
            self.pile = []
        if word in ("let", "keep", "keeplast"):
            self.set[row[1]] = away[0] if word == "let" else "k"
        elif word == "open":
            self.set.update({row[1]: "?", row[2]: "?"})
        elif word == "def":
            self.set[row[3]] = "f"
        elif word == "drop":
            del self.set[row[1]]
        elif word in ("last", "return", "go"):
            self.pile = None

    def join(self):
        """Let forks of this height come to this place, too."""
        for fork in list(self.forks):
            if len(fork[1]) == len(self.pile) and self.r.random() < 0.7:
                self.come(fork)
                self.pile = [one if one == other else "?" for one, other in zip(self.pile, fork[1])]
                both = [i for i in self.set if i in fork[2]]
                self.set = {i: self.set[i] if self.set[i] == fork[2][i] else "?" for i in both}

    def come(self, fork):
        self.forks.remove(fork)
        self.rows[fork[0]] = (*self.rows[fork[0]], len(self.rows))

    def behind_an_end(self):
        """A fork comes here, or no way."""
        if self.r.random() < 0.2 or not self.forks:
            self.rows.append(self.r.choice([("pair",), ("slot", 0), ("last",), ("return",), ("drop", 0), ("number", 1)]))
        else:
            self.go_on_from(self.r.choice(self.forks))

    def go_on_from(self, fork):
        self.come(fork)
        self.pile = list(fork[1])
        self.set = dict(fork[2])

    def finish(self):
        """End all ways that are not ended."""
        while self.pile is not None or self.forks:
            if self.pile is None:
                self.go_on_from(self.forks[-1])
            elif len(self.pile) == 0:
                self.add(self.r.choice(["number", "slot"] if self.set else ["number"]))
            elif len(self.pile) == 1:
                self.add("return")
            elif len(self.pile) == 2 and self.is_sort(2, "fk"):
                self.add("last")
            else:
                self.add(self.r.choice(["pair", "let"]))


def random_code(r):
    blocks = [0] + [r.randint(0, 2) for _ in range(r.randint(0, 3))]
    return tuple((blocks[at], made.slots, tuple(made.rows)) for at in range(len(blocks)) for made in [Maker(r, blocks, at)])


def random_codes(seed, many):
    r = random.Random(seed)
    return [random_code(r) for _ in range(many)]


def changed(r, code):
    """A code with one of its rows changed, left out, or put anew, whether it fits or not."""
    at = r.randrange(len(code))
    held, slots, rows = code[at]
    place = r.randrange(len(rows))
    other = r.choice(r.choice(code)[2])
    way = r.random()
    if way < 0.5:
        rows = rows[:place] + (other,) + rows[place + 1:]
    elif way < 0.7:
        rows = rows[:place] + rows[place + 1:]
    else:
        rows = rows[:place] + (other,) + rows[place:]
    return code[:at] + ((held, slots, rows),) + code[at + 1:]


def changed_codes(seed, many, wanted):
    """So many codes of programs, changed in one to three places, which pass the test."""
    r = random.Random(seed)
    programs = BY_HAND + random_programs(seed, 60, is_program)
    found = []
    while len(found) < many:
        code = compiled(r.choice(programs))
        for _ in range(r.randint(1, 3)):
            code = changed(r, code)
            if not is_code(code):
                break
        if is_code(code) and wanted(code):
            found.append(code)
    return found


PROGRAMS = BY_HAND + [ENDLESS, STUCK] + random_programs(61, 80, is_program) + returning_programs(62, 20, is_program)
CODES_OF_PROGRAMS = [compiled(program) for program in PROGRAMS]
CODES_OF_NONE = random_codes(62, 150) + changed_codes(63, 100, fits)
