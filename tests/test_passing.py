"""Promises 81 to 87: passes that shorten programs, to one last form, and the bills of what comes."""

import random
import unittest

from returnsdue.billing import bill
from returnsdue.errors import BadBill, BadPass, BadPasses, BadProgram, TooMany
from returnsdue.instances import instances
from returnsdue.judging import is_bill, lines, many
from returnsdue.ledger import Ledger
from returnsdue.passing import are_last, bill_passed, done, gain, last_form, passed, passes, shortened
from returnsdue.running import run
from returnsdue.sources import plain_names
from returnsdue.stepper import Runner, Trail
from returnsdue.terms import alike, is_program, paths, renamed
from tests.programs import (
    BY_HAND, ENDLESS, ENTERED, IDENTITY, STUCK, TWICE, call, counted_down, exchanged_at, loop, name, number, part_of, random_programs,
    returning_programs, variants)
from tests.reference import PARTS, free, worked
from tests.test_followbills import billed
from tests.values import ODD

KINDS = ["call", "choose", "def", "enter", "hold", "keep", "let", "look", "open", "show", "work"]
WORDS = ["choose", "fun", "keep", "last", "let", "nest", "never", "open", "same", "unused", "work"]
BIG = 10 ** 29
EXAMPLE = ("keep", "k", ("let", "x", call(name("k"), number(5)), name("x")))
FRESH = ["q" + letter for letter in "abcdefghijklmnopqrstuvwxyz"]


def names_around(e, path):
    """The names that may stand at a path, and those of them that are bound by keeps."""
    found, kept = [], []
    for at in path:
        new = {("fun", 2): [1], ("keep", 2): [1], ("let", 3): [1], ("def", 3): [1, 2], ("def", 4): [1], ("open", 4): [2, 3]}.get((e[0], at), [])
        names = [e[index] for index in new]
        found = [x for x in found if x not in names] + names
        kept = [x for x in kept if x not in names] + (names if e[0] == "keep" else [])
        e = e[at]
    return found, kept


def padded(r, e):
    """An expression with something around one of its parts that a pass may take away."""
    path = r.choice(paths(e))
    part = part_of(e, path)
    names, kept = names_around(e, path)
    x, y = r.sample(FRESH, 2)
    some = number(r.randint(-2, 3))
    plain = name(r.choice(names)) if names else some
    ways = [
        ("keep", x, part), ("let", x, part, name(x)), call(("fun", x, part), some), call(("fun", x, name(x)), part),
        ("let", x, r.choice([some, plain, ("fun", y, some), ("pair", plain, some), ("pair", some, ("fun", y, plain))]), part),
        ("def", x, y, some, part), ("choose", number(r.choice([0, 0, 1, -3])), part, some), ("choose", number(0), some, part),
        ("work", "plus", part, ("work", "times", some, some)), ("let", x, plain, ("pair", part, name(x))),
        ("open", ("pair", plain, plain), x, y, part), ("open", ("pair", plain, plain), x, y, ("pair", name(y), name(x))),
        ("keep", x, ("keep", y, r.choice([part, call(name(y), part), call(name(x), part), ("let", "qq", some, call(name(x), part))]))),
        ("keep", x, ("choose", some, call(name(x), part), part)), ("show", ("work", r.choice(["less", "same"]), some, some)),
        ("let", x, ("show", some), part), ("let", x, ("pair", ("show", some), plain), part),
    ]
    if kept:
        entry = call(name(r.choice(kept)), part)
        ways += [entry, ("show", entry), ("let", x, entry, part), ("pair", entry, some), ("work", "less", entry, some), call(entry, part),
                 ("choose", entry, part, some), ("open", entry, x, y, part), ("pair", some, entry), ("work", "less", some, entry)]
    return exchanged_at(e, path, r.choice(ways))


def padded_programs(seed, wanted):
    r = random.Random(seed)
    found = []
    seeds = BY_HAND + random_programs(seed, 60, is_program) + returning_programs(seed, 30, is_program)
    while len(found) < wanted:
        e = r.choice(seeds)
        for _ in range(r.randint(1, 5)):
            e = padded(r, e)
        if is_program(e) and len(paths(e)) < 80:
            found.append(e)
    return found


PADDED = padded_programs(81, 300)
PROGRAMS = BY_HAND + [STUCK, ENDLESS, EXAMPLE] + PADDED + random_programs(82, 100, is_program)
BILLED = billed(PROGRAMS)


def last_places(e):
    found = [()]
    for at in {"let": [3], "open": [4], "def": [4], "choose": [2, 3], "keep": [2]}.get(e[0], []):
        found += [(at, *path) for path in last_places(e[at])]
    return found


def exchange(e, x, other):
    """An expression with plain names in which other stands for the name x."""
    if e == ("name", x):
        return other
    return tuple(exchange(part, x, other) if isinstance(part, tuple) else part for part in e)


def harmless(e):
    return e[0] in ("name", "number", "fun") or e[0] == "pair" and harmless(e[1]) and harmless(e[2])


def plain_passes(program):
    """All passes of a program with plain names, as the document tells them: a dict from passes to what comes."""
    found = {}
    kept = [part_of(program, path)[1] for path in paths(program) if part_of(program, path)[0] == "keep"]

    def add(word, path, part):
        found[(word, path)] = exchanged_at(program, path, part)

    for path in paths(program):
        e = part_of(program, path)
        first = e[PARTS[e[0]][0]] if PARTS[e[0]] else None
        if e[0] == "choose" and first[0] == "number":
            add("choose", path, e[3] if first[1] == 0 else e[2])
        if e[0] == "call" and first[0] == "fun":
            add("fun", path, ("let", first[1], e[2], first[2]))
        if e[0] == "keep":
            if e[1] not in free(e[2]):
                add("keep", path, e[2])
            for behind in last_places(e[2]):
                part = part_of(e[2], behind)
                if part[0] == "call" and part[1] == ("name", e[1]):
                    add("last", (*path, 2, *behind), part[2])
            if e[2][0] == "keep":
                add("nest", path, ("keep", e[1], exchange(e[2][2], e[2][1], ("name", e[1]))))
        if e[0] == "let":
            if first[0] == "name":
                add("let", path, exchange(e[3], e[1], first))
            if e[3] == ("name", e[1]):
                add("same", path, first)
            if harmless(first) and e[1] not in free(e[3]):
                add("unused", path, e[3])
        if e[0] == "def" and e[1] not in free(e[4]):
            add("unused", path, e[4])
        if e[0] in ("let", "open", "choose", "show", "call", "work", "pair"):
            if first[0] == "call" and first[1][0] == "name" and first[1][1] in kept:
                add("never", path, first)
        if e[0] == "open" and first[0] == "pair" and first[1][0] == first[2][0] == "name":
            add("open", path, exchange(exchange(e[4], e[2], first[1]), e[3], first[2]))
        if e[0] == "work" and e[2][0] == e[3][0] == "number" and abs(worked(e[1], e[2][1], e[3][1])) < 10 ** 30:
            add("work", path, ("number", worked(e[1], e[2][1], e[3][1])))
    return found


def plain_gain(program, word, path):
    """What a pass saves, by the number of bills of the part and by how often they return."""
    plain = plain_names(program)
    part = part_of(plain, path)
    found = dict.fromkeys(KINDS, 0)

    def add(**more):
        for kind, times in more.items():
            found[kind.rstrip("_")] += times

    n = len(instances(program, path))

    def r(*behind):
        return sum(many(tree) for _, _, tree in instances(program, (*path, *behind)))

    def lines_of(e):
        if e[0] == "pair":
            lines_of(e[1])
            lines_of(e[2])
        add(**({"look": n} if e[0] == "name" else {"hold": n}))

    if word in ("choose", "work"):
        # Of a work both its numbers and what comes of them are held: two less one.
        add(hold=n, **{word: n})
    elif word in ("keep", "nest"):
        add(keep=n)
    elif word == "let":
        add(let=n, look=n)
    elif word == "open":
        add(look=2 * n, hold=n, open=n)
    elif word == "unused" and part[0] == "def":
        found["def"] += n
    elif word == "unused":
        add(let=n)
        lines_of(part[2])
    elif word == "last":
        add(look=n, enter=r(2))
    elif word == "same":
        add(let=r(2), look=r(2))
    elif word == "fun":
        add(hold=n, call=r(2), let=-r(2))
    return found


class PassesTest(unittest.TestCase):
    def test_by_hand(self):
        self.assertEqual(passes(EXAMPLE), [("never", (2,)), ("same", (2,))])
        entered = ("keep", "a", call(name("a"), number(5)))
        self.assertEqual(passed(EXAMPLE, "never", (2,)), entered)
        self.assertEqual(passed(EXAMPLE, "same", (2,)), entered)
        self.assertEqual(passes(entered), [("last", (2,))])
        self.assertEqual(passed(entered, "last", (2,)), ("keep", "a", number(5)))
        self.assertEqual(passed(word="keep", path=(), program=("keep", "a", number(5))), number(5))

    def check(self, program, word, path, wanted):
        self.assertIn((word, path), passes(program))
        self.assertEqual(passed(program, word, path), plain_names(wanted))

    def check_not(self, program, word, path=()):
        self.assertNotIn((word, path), passes(program))
        self.assertRaises(BadPass, passed, program, word, path)

    def test_each_pass_and_what_makes_it_impossible(self):
        one, two = number(1), number(2)
        self.check(("choose", one, two, ("show", one)), "choose", (), two)
        self.check(("choose", number(0), two, ("show", one)), "choose", (), ("show", one))
        self.check(("choose", number(-1), two, one), "choose", (), two)
        self.check_not(("choose", ("show", one), two, one), "choose")
        self.check(call(("fun", "x", name("x")), two), "fun", (), ("let", "x", two, name("x")))
        self.check_not(call(("let", "f", IDENTITY, name("f")), two), "fun")
        self.check(("keep", "k", two), "keep", (), two)
        self.check(("keep", "k", ("keep", "k", name("k"))), "keep", (), ("keep", "k", name("k")))
        self.check_not(("keep", "k", ("fun", "x", name("k"))), "keep")
        self.check(("keep", "k", ("keep", "j", ("pair", name("j"), name("k")))), "nest", (), ("keep", "k", ("pair", name("k"), name("k"))))
        self.check(("keep", "k", ("keep", "k", name("k"))), "nest", (), ("keep", "k", name("k")))
        self.check_not(("keep", "k", ("show", ("keep", "j", two))), "nest")
        self.check(("let", "y", two, ("let", "x", name("y"), ("pair", name("x"), name("y")))), "let", (3,), (
            "let", "y", two, ("pair", name("y"), name("y"))))
        # A name within that hides the one that takes the place of the other.
        self.check(("let", "y", two, ("let", "x", name("y"), ("fun", "y", ("pair", name("x"), name("y"))))), "let", (3,), (
            "let", "y", two, ("fun", "z", ("pair", name("y"), name("z")))))
        self.check_not(("let", "x", one, name("x")), "let")
        self.check(("let", "x", ("show", one), name("x")), "same", (), ("show", one))
        self.check_not(("let", "y", one, ("let", "x", ("show", one), name("y"))), "same", (3,))
        self.check_not(("let", "x", one, ("show", name("x"))), "same")
        self.check(("work", "plus", one, two), "work", (), number(3))
        self.check(("work", "less", one, two), "work", (), one)
        self.check(("work", "times", number(BIG), number(9)), "work", (), number(9 * BIG))
        self.check_not(("work", "times", number(BIG), number(10)), "work")
        self.check_not(("work", "minus", number(-9 * BIG), number(BIG)), "work")
        self.check(("work", "minus", number(-9 * BIG), number(BIG - 1)), "work", (), number(1 - 10 ** 30))
        self.check_not(("work", "plus", ("show", one), two), "work")
        self.check_not(("work", "plus", one, ("show", two)), "work")

    def test_unused(self):
        one = number(1)
        for first in (one, IDENTITY, ("pair", one, IDENTITY), ("pair", ("pair", one, one), ("fun", "z", ("show", name("z"))))):
            self.check(("let", "x", first, one), "unused", (), one)
            self.check_not(("let", "x", first, ("fun", "y", name("x"))), "unused")
            self.check(("let", "x", first, ("fun", "x", name("x"))), "unused", (), IDENTITY)
        for first in (("show", one), ("pair", one, ("show", one)), call(IDENTITY, one), ("keep", "k", one), ("def", "y", "z", one, one),
                      ("let", "z", one, one), ("choose", one, one, one), ("work", "plus", one, one), ("open", ("pair", one, one), "a", "b", one),
                      ("pair", ("pair", one, ("show", one)), one)):
            self.check_not(("let", "x", first, one), "unused")
        self.check(("let", "x", one, ("let", "y", name("x"), one)), "unused", (3,), ("let", "x", one, one))
        self.check(("def", "y", "x", call(name("y"), name("x")), one), "unused", (), one)
        self.check_not(("def", "y", "x", name("x"), ("fun", "z", name("y"))), "unused")
        self.check(("def", "y", "x", name("x"), ("fun", "y", name("y"))), "unused", (), IDENTITY)

    def test_open(self):
        one, two = number(1), number(2)

        def around(e):
            return ("let", "a", one, ("let", "b", two, e))

        pair = ("pair", name("a"), name("b"))
        self.check(around(("open", pair, "x", "y", ("pair", name("y"), name("x")))), "open", (3, 3), around(("pair", name("b"), name("a"))))
        # Names that hide those that come in their places.
        self.check(around(("open", pair, "b", "a", ("pair", name("a"), name("b")))), "open", (3, 3), around(("pair", name("b"), name("a"))))
        self.check(around(("open", ("pair", name("a"), name("a")), "x", "y", ("fun", "a", ("pair", name("x"), name("a"))))), "open", (3, 3),
                   around(("fun", "z", ("pair", name("a"), name("z")))))
        for first in (("pair", name("a"), two), ("pair", one, name("b")), name("a"), ("show", pair), ("pair", pair, pair)):
            self.check_not(around(("open", first, "x", "y", name("x"))), "open", (3, 3))

    def test_last(self):
        one, two = number(1), number(2)
        entry = call(name("k"), one)
        for e, path in [(entry, ()), (("let", "x", two, entry), (3,)), (("open", ("pair", one, two), "x", "y", entry), (4,)),
                        (("def", "y", "x", two, entry), (4,)), (("choose", two, entry, one), (2,)), (("choose", two, one, entry), (3,)),
                        (("keep", "j", entry), (2,)), (("keep", "j", ("let", "x", two, ("choose", name("x"), entry, one))), (2, 3, 2))]:
            self.check(("keep", "k", e), "last", (2, *path), ("keep", "k", exchanged_at(e, path, one)))
        self.check(("show", ("keep", "k", entry)), "last", (1, 2), ("show", ("keep", "k", one)))
        for e, path in [(("let", "x", entry, two), (2,)), (("fun", "x", entry), (2,)), (("show", entry), (1,)), (("pair", entry, two), (1,)),
                        (("pair", two, entry), (2,)), (("def", "y", "x", entry, two), (3,)), (("choose", entry, one, two), (1,)),
                        (("open", entry, "x", "y", two), (1,)), (call(entry, two), (1,)), (call(IDENTITY, entry), (2,)),
                        (("work", "plus", entry, two), (2,)), (("keep", "k", entry), ()), (call(("keep", "j", entry), two), (1, 2))]:
            self.check_not(("keep", "k", e), "last", (2, *path))
        # A name that another keep, or a let, hides; and a function of this name.
        self.check(("keep", "k", ("keep", "k", entry)), "last", (2, 2), ("keep", "k", ("keep", "j", one)))
        self.check_not(("keep", "k", ("let", "k", IDENTITY, entry)), "last", (2, 3))
        self.check_not(("let", "k", IDENTITY, entry), "last", (3,))
        self.check_not(("keep", "k", ("show", ("keep", "j", entry))), "last", (2, 1, 2))

    def test_never(self):
        one, two = number(1), number(2)
        entry = call(name("k"), one)
        for e in (("let", "x", entry, two), ("open", entry, "x", "y", two), ("choose", entry, one, two), ("show", entry), call(entry, two),
                  ("work", "plus", entry, two), ("pair", entry, two)):
            self.check(("keep", "k", e), "never", (2,), ("keep", "k", entry))
            self.check(("keep", "k", ("fun", "z", e)), "never", (2, 2), ("keep", "k", ("fun", "z", entry)))
            self.check_not(("let", "k", IDENTITY, e), "never", (3,))
            self.check_not(("keep", "k", ("fun", "k", e)), "never", (2, 2))
            self.check_not(("keep", "k", ("def", "k", "z", e, e)), "never", (2, 3))
        for e in (("pair", two, entry), call(IDENTITY, entry), ("work", "plus", two, entry), ("let", "x", two, entry), ("keep", "j", entry),
                  ("fun", "x", entry), entry, ("show", ("show", entry)), ("show", call(IDENTITY, one))):
            self.check_not(("keep", "k", e), "never", (2,))

    def test_several_at_one_place(self):
        program = ("let", "y", number(1), ("let", "x", name("y"), name("x")))
        self.assertEqual([word for word, path in passes(program) if path == (3,)], ["let", "same"])
        program = ("keep", "k", ("keep", "j", number(1)))
        self.assertEqual(passes(program), [("keep", ()), ("keep", (2,)), ("nest", ())])
        program = ("keep", "k", ("let", "x", call(name("k"), number(1)), name("x")))
        self.assertEqual(len(passes(program)), 2)

    def test_second_reading(self):
        met = dict.fromkeys(WORDS, 0)
        for program in PROGRAMS:
            plain = plain_names(program)
            wanted = plain_passes(plain)
            found = passes(program)
            self.assertEqual(found, sorted(wanted))
            for word, path in found:
                met[word] += 1
                made = passed(program, word, path)
                self.assertTrue(is_program(made))
                self.assertEqual(made, plain_names(wanted[(word, path)]))
                self.assertLess(len(paths(made)), len(paths(program)))
        self.assertTrue(all(times > 25 for times in met.values()), met)

    def test_no_passes(self):
        for program in (EXAMPLE, TWICE, PADDED[0], PADDED[5]):
            right = passes(program)
            for word in [*WORDS, "", "Same", "sames", None, 1, True, (), [], ["same"], ("same",), {}, "call", "look"]:
                for path in [*paths(program), (9,), (0,), (2, 2, 2, 2, 2, 2, 2), None, 2, [2], [], "", "2", (True,), (2.0,), ("2",), ((2,),), (None,)]:
                    is_path = type(path) is tuple and all(type(at) is int for at in path)
                    if not is_path or (word, path) not in right:
                        self.assertRaises(BadPass, passed, program, word, path)
        # True is no index.
        program = call(("keep", "k", number(1)), number(2))
        self.assertIn(("keep", (1,)), passes(program))
        self.assertRaises(BadPass, passed, program, "keep", (True,))
        self.assertRaises(BadPass, passed, number(5), "same", ())


class RunsTest(unittest.TestCase):
    def test_what_is_shown_and_how_it_ends(self):
        r = random.Random(83)
        ends = set()
        for program in PROGRAMS:
            shown, end, _ = run(program, 150)
            ends.add(end[0])
            for word, path in r.sample(passes(program), min(len(passes(program)), 4)):
                made = passed(program, word, path)
                found, told, _ = run(made, 150)
                if end == ("more",):
                    self.assertEqual(found[:len(shown)], shown)
                    self.assertIn(told, [("more",), run(program, 20000)[1]])
                else:
                    self.assertEqual((found, told), (shown, end))
                for most in (3, 8, 20):
                    some = run(program, most)[0]
                    self.assertEqual(run(made, most)[0][:len(some)], some)
        self.assertEqual(ends, {"number", "function", "pair", "kept", "stuck", "more"})


class GainTest(unittest.TestCase):
    def test_against_bills_and_runs(self):
        met = dict.fromkeys(WORDS, 0)
        numbers, returned = set(), set()
        for program, value in BILLED:
            for word, path in passes(program):
                found = gain(program, value, word, path)
                self.assertEqual(list(found), KINDS)
                made = passed(program, word, path)
                new = bill_passed(program, value, word, path)
                self.assertTrue(is_bill(made, new))
                old_lines, new_lines = lines(value[1]), lines(new[1])
                self.assertEqual(found, {kind: old_lines[kind] - new_lines[kind] for kind in KINDS})
                self.assertEqual(found, plain_gain(program, word, path))
                self.assertEqual(new_lines, run(made, 400)[2])
                self.assertTrue(all(found[kind] >= 0 for kind in KINDS if kind != "let") and found["let"] + found["call"] >= 0)
                met[word] += 1
                numbers.add(min(len(instances(program, path)), 3))
                if word in ("fun", "same", "last"):
                    returned |= {(word, min(many(tree), 2)) for _, _, tree in instances(program, (*path, 2))}
                try:
                    self.assertEqual(new, bill(made))
                except TooMany:
                    pass
        self.assertTrue(all(times > 20 for times in met.values()), met)
        self.assertEqual(numbers, {0, 1, 2, 3})
        self.assertEqual(returned, {(word, times) for word in ("fun", "same", "last") for times in (0, 1, 2)})

    def test_by_hand(self):
        value = bill(EXAMPLE)
        self.assertEqual(gain(EXAMPLE, value, "never", (2,)), dict.fromkeys(KINDS, 0))
        self.assertEqual(gain(EXAMPLE, value, "same", (2,)), dict.fromkeys(KINDS, 0))
        program = call(("fun", "x", number(1)), ("show", number(2)))
        self.assertEqual(gain(bill=bill(program), path=(), word="fun", program=program), {**dict.fromkeys(KINDS, 0), "hold": 1, "call": 1, "let": -1})
        self.assertEqual(bill_passed(program, bill(program), "fun", ()), bill(("let", "x", ("show", number(2)), number(1))))
        # A part that is begun three times, and one that returns twice.
        program = counted_down(2, ("work", "plus", number(1), number(1)))
        self.assertEqual(gain(program, bill(program), "work", (3, 3))["work"], 1)
        program = call(("fun", "x", number(1)), TWICE[1])
        self.assertEqual(gain(program, bill(program), "fun", ())["call"], 1)

    def test_bills_of_more_than_400_lines(self):
        program = counted_down(200, ("work", "plus", number(1), number(1)))
        runner = Runner(program, Trail())
        while runner.step():
            pass
        value = (runner.ended, Ledger(runner).trees[0].value)
        self.assertEqual(gain(program, value, "work", (3, 3)), {**dict.fromkeys(KINDS, 0), "work": 1, "hold": 1})
        made = passed(program, "work", (3, 3))
        self.assertTrue(is_bill(made, bill_passed(program, value, "work", (3, 3))))
        form, new, saved = shortened(program, value)
        self.assertTrue(is_bill(form, new))
        self.assertEqual(saved["work"], 1)

    def test_refused(self):
        for told, given in ((gain, ("no", None)), (bill_passed, ("no", None)), (shortened, ())):
            for value in ODD:
                self.assertRaises(BadProgram, told, value, None, *given)
                self.assertRaises(BadBill, told, EXAMPLE, value, *given)
            for program in (STUCK, ENDLESS, TWICE, plain_names(TWICE), number(6)):
                self.assertRaises(BadBill, told, program, bill(EXAMPLE), *given)
            for other in variants(bill(ENTERED)):
                if not is_bill(ENTERED, other):
                    self.assertRaises(BadBill, told, ENTERED, other, *given)
        for told in (gain, bill_passed):
            for word, path in [("never", ()), ("keep", ()), ("none", (2,)), (None, (2,)), ("never", [2]), ("never", (True,)), ([], [])]:
                self.assertRaises(BadPass, told, EXAMPLE, bill(EXAMPLE), word, path)
        self.assertRaises(BadProgram, passes, name("x"))
        for value in ODD:
            self.assertRaises(BadProgram, passes, value)
            self.assertRaises(BadProgram, passed, value, None, None)

    def test_what_is_told_is_new(self):
        value = bill(EXAMPLE)
        gain(EXAMPLE, value, "never", (2,)).clear()
        self.assertEqual(len(gain(EXAMPLE, value, "never", (2,))), 11)
        passes(EXAMPLE).clear()
        self.assertEqual(len(passes(EXAMPLE)), 2)
        shortened(EXAMPLE, value)[2].clear()
        self.assertEqual(len(shortened(EXAMPLE, value)[2]), 11)


class LastFormTest(unittest.TestCase):
    def test_every_order_leads_to_one_last_form(self):
        r = random.Random(86)
        for program in PROGRAMS:
            form = last_form(program)
            self.assertEqual(passes(form), [])
            self.assertEqual((last_form(form), plain_names(form)), (form, form))
            for _ in range(2):
                row = []
                made = program
                while passes(made):
                    row.append(r.choice(passes(made)))
                    made = passed(made, *row[-1])
                self.assertEqual(plain_names(made), form)
                self.assertEqual(done(program, row), form)
                self.assertEqual(done(program, tuple(row[:2])), done(done(program, row[:1]), row[1:2]))
                if row:
                    self.assertRaises(BadPasses, done, program, [*row, row[-1]])
            if "'keep'" not in repr(program):
                self.assertNotIn("'keep'", repr(form))

    def test_every_order_of_small_programs(self):
        for program in [program for program in PADDED if len(paths(program)) < 16][:40]:
            forms = set()
            waiting = [plain_names(program)]
            seen = set()
            while waiting:
                made = waiting.pop()
                if made in seen:
                    continue
                seen.add(made)
                found = passes(made)
                if not found:
                    forms.add(made)
                waiting += [passed(made, *one) for one in found]
            self.assertEqual(forms, {last_form(program)})

    def test_programs_alike_have_the_same_last_form(self):
        for program in PROGRAMS[::3]:
            other = program
            for path in paths(program):
                part = part_of(other, path)
                if part[0] in ("fun", "let", "keep", "def"):
                    other = renamed(other, path, part[1], next(x for x in FRESH if f"'{x}'" not in repr(other)))
                    break
            self.assertTrue(alike(program, other))
            self.assertEqual(last_form(other), last_form(program))

    def test_done(self):
        self.assertEqual(done(EXAMPLE, []), plain_names(EXAMPLE))
        self.assertEqual(done(EXAMPLE, ()), plain_names(EXAMPLE))
        row = [("never", (2,)), ("last", (2,)), ("keep", ())]
        for at in range(4):
            self.assertEqual(done(row=row[:at], program=EXAMPLE), [
                plain_names(EXAMPLE), plain_names(ENTERED), ("keep", "a", number(5)), number(5)][at])
        for wrong in [None, 1, "never", {}, {"never": (2,)}, [None], ["never"], [("never",)], [["never", (2,)]], [("never", [2])], [("never", (2,), 1)],
                      [("never", (2,)), ("never", (2,))], [("last", (2,))], [("same", (2,)), ("keep", ())], [("same", (2,)), None],
                      [("keep", (True,))], [(None, None)], row[::-1], [([], [])]]:
            self.assertRaises(BadPasses, done, EXAMPLE, wrong)
        for value in ODD:
            self.assertRaises(BadProgram, done, value, None)
            self.assertRaises(BadProgram, last_form, value)
            self.assertRaises(BadProgram, are_last, value, value)
        before = list(row)
        done(EXAMPLE, row)
        self.assertEqual(row, before)

    def test_are_last(self):
        for program in PROGRAMS[::4]:
            form = last_form(program)
            self.assertIs(are_last(program, form), True)
            self.assertIs(are_last(program, program), program == form)
            self.assertIs(are_last(form, form), True)
        for value in [*ODD, ("number", 1), ("number", True), call(number(1), number(2))]:
            self.assertIs(are_last(number(1), value), value == number(1) and value[1] is not True)
        self.assertIs(are_last(value=("fun", "x", name("x")), program=IDENTITY), False)
        self.assertIs(are_last(IDENTITY, ("fun", "a", name("a"))), True)
        for other in variants(last_form(TWICE)):
            self.assertIs(are_last(TWICE, other), False)

    def test_big_programs(self):
        e = number(0)
        for at in range(58):
            e = ("let", "x", number(at), e) if at % 2 else ("keep", "k", e)
        self.assertEqual(last_form(e), number(0))
        wide = [("work", "plus", number(at), number(1)) for at in range(64)]
        while len(wide) > 1:
            wide = [("work", "plus", *wide[at:at + 2]) for at in range(0, len(wide), 2)]
        self.assertEqual(last_form(wide[0]), number(sum(range(1, 65))))


class ShortenedTest(unittest.TestCase):
    def test_by_hand(self):
        form, found, saved = shortened(EXAMPLE, bill(EXAMPLE))
        self.assertEqual((form, found), (number(5), bill(number(5))))
        self.assertEqual(saved, {**dict.fromkeys(KINDS, 0), "look": 1, "enter": 1, "keep": 1})
        self.assertEqual(shortened(bill=bill(TWICE), program=TWICE), (plain_names(TWICE), bill(TWICE), dict.fromkeys(KINDS, 0)))

    def test_the_gains_sum_up(self):
        r = random.Random(87)
        for program, value in BILLED:
            form, found, saved = shortened(program, value)
            self.assertEqual(form, last_form(program))
            self.assertTrue(is_bill(form, found))
            self.assertEqual(list(saved), KINDS)
            old_lines, new_lines = lines(value[1]), lines(found[1])
            self.assertEqual(saved, {kind: old_lines[kind] - new_lines[kind] for kind in KINDS})
            total = dict.fromkeys(KINDS, 0)
            made, told = program, value
            while passes(made):
                word, path = r.choice(passes(made))
                for kind, many_more in gain(made, told, word, path).items():
                    total[kind] += many_more
                told = bill_passed(made, told, word, path)
                made = passed(made, word, path)
            self.assertEqual((total, plain_names(made), told), (saved, form, found))

    def test_entered_many_times(self):
        program = loop(6, ("work", "plus", name("v"), ("choose", number(1), number(2), number(3))))
        form, found, saved = shortened(program, bill(program))
        self.assertEqual((saved["choose"], saved["hold"], lines(found[1])["enter"]), (1, 1, 6))


if __name__ == "__main__":
    unittest.main()
