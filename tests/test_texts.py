"""Promise 101: texts, read sign by sign, completed, and laid into rows."""

import random
import unittest
from unittest import mock

from returnsdue.errors import BadExpression, BadNames, BadText, BadWidth
from returnsdue.terms import free_names, is_expression, is_program
from returnsdue.texts import completed, laid, offers, read, text
from tests.programs import BY_HAND, STUCK, TWICE, call, name, number, random_programs
from tests.values import ODD

LETTERS = "abcdefghijklmnopqrstuvwxyz"
DIGITS = "0123456789"
SIGNS = "\n ()-" + DIGITS + LETTERS
STARTS = ["\n", " ", "(", "-", *DIGITS]
HEADS = ["call", "choose", "def", "fun", "keep", "less", "let", "minus", "open", "pair", "plus", "same", "show", "times"]
PARTS = {"fun": 1, "keep": 1, "show": 1, "choose": 3}
PROGRAMS = BY_HAND + [STUCK] + random_programs(101, 100, is_program)
BLANKS = [" ", "\n"]


def at_of(signs, *names):
    """Where a text is refused, True if it is right."""
    try:
        read(signs, *names)
    except BadText as error:
        return error.at
    return True


def words_of(signs):
    return signs.replace("(", " ( ").replace(")", " ) ").split()


def spaced(r, e):
    """The words of a text with blanks and line feeds as it may have them, at some places none."""
    words = words_of(text(e))
    made = "".join(r.choice(BLANKS) for _ in range(r.randint(0, 2)))
    for one, other in zip(words, words[1:] + [")"]):
        least = one not in "()" and other not in "()"
        made += one + "".join(r.choice(BLANKS) for _ in range(r.choice([least, least, least + 1, least + 3])))
    return made


class TextTest(unittest.TestCase):
    def test_each_kind(self):
        x, y = name("x"), name("y")
        for e, wanted in (
                (x, "x"), (number(7), "7"), (number(0), "0"), (number(-30), "-30"), (("fun", "x", x), "(fun x x)"),
                (call(x, y), "(call x y)"), (("let", "x", y, x), "(let x y x)"), (("def", "y", "x", x, y), "(def y x x y)"),
                (("pair", x, y), "(pair x y)"), (("open", x, "a", "b", y), "(open x a b y)"),
                (("choose", x, y, number(1)), "(choose x y 1)"), (("show", x), "(show x)"), (("keep", "k", x), "(keep k x)")):
            self.assertEqual(text(e), wanted)
            self.assertEqual(read(wanted, ["y", "x"]), e)
        for w in ("plus", "minus", "times", "less", "same"):
            self.assertEqual(text(("work", w, x, number(-1))), f"({w} x -1)")
            self.assertEqual(read(f"({w} x -1)", ["x"]), ("work", w, x, number(-1)))
        self.assertEqual(text(expression=("show", ("show", x))), "(show (show x))")
        self.assertEqual(text(number(10 ** 30 - 1)), "9" * 30)
        self.assertEqual(text(number(1 - 10 ** 30)), "-" + "9" * 30)

    def test_refused(self):
        for value in ODD:
            if not is_expression(value):
                self.assertRaises(BadExpression, text, value)
                self.assertRaises(BadExpression, laid, value, 0)


class ReadTest(unittest.TestCase):
    def test_examples(self):
        self.assertEqual(at_of("(let call 3 x)"), 9)
        self.assertEqual(at_of("(plus 3 y)"), 8)
        self.assertEqual(completed("(open 12"), "(open 12 a b 0)")
        self.assertEqual(completed("(c"), "(call 0 0)")

    def test_back_and_forth(self):
        r = random.Random(1)
        for program in PROGRAMS:
            self.assertEqual(read(text(program)), program)
            self.assertEqual(read(spaced(r, program)), program)
            self.assertEqual(read(text=laid(program, r.randint(1, 60)), names=()), program)
            part = r.choice([e for e in parts_of(program)])
            names = free_names(part)
            self.assertEqual(read(spaced(r, part), tuple(names) + ("other", "other")), part)
            if names:
                self.assertNotEqual(at_of(text(part), names[1:]), True)

    def test_blanks_where_they_may_be(self):
        for signs in ("(plus 1(plus 2 3))", "(plus(plus 2 3)1)", "(plus(plus 2 3)(show 1))", "( plus 1 2 )", "\n(plus\n1\n2\n)\n",
                      "(plus 1 2)  ", "  \n 5 \n", "(open(pair 1 2)x y(show 3))", "(let x(show 3)x)", "(def y x(fun z z)y)",
                      "(fun x(show x))", "(keep k(show 1))", "(choose(show 1)(show 2)(show 3))", "(call(fun x x)-4)"):
            self.assertIs(at_of(signs), True)
        self.assertEqual(read("(open(pair 1 2)x y(show 3))"), ("open", ("pair", number(1), number(2)), "x", "y", (
            "show", number(3))))
        for signs, at in (("(plus1 2)", 5), ("(plus 12)", 8), ("(plus 1-2)", 7), ("(letx 1 2)", 4), ("(let x1 2)", 6),
                          ("(def yx 1 2)", 8), ("(show\t1)", 5), ("\t1", 0), ("1\r", 1), ("(show 1\u00a0)", 7), ("(fun(x x))", 4),
                          ("(let(x 1 x))", 4), ("(keep 1 2)", 6), ("(open 1(a b 2))", 7), ("(def y(x 1 2))", 6)):
            self.assertEqual(at_of(signs), at, signs)

    def test_brackets(self):
        for signs, at in (("", 0), (" ", 1), ("(", 1), (")", 0), ("()", 1), ("(show)", 5), ("(show 1", 7), ("(show 1))", 8),
                          ("(show 1 2)", 8), ("1 2", 2), ("(show 1) 2", 9), ("(show 1)(show 2)", 8), ("(plus 1)", 7), ("((", 1),
                          ("(1 2)", 1), ("(x 2)", 1), ("(choose 1 2)", 11), ("(fun x)", 6), ("[show 1]", 0)):
            self.assertEqual(at_of(signs), at, signs)

    def test_numbers(self):
        for signs in ("0", "7", "-7", "10", "-10", "9" * 30, "-" + "9" * 30, "1" + "0" * 29):
            self.assertEqual(read(signs), number(int(signs)))
        for signs, at in (("-", 1), ("-0", 1), ("00", 1), ("01", 1), ("-01", 1), ("--1", 1), ("+1", 0), ("1-", 1), ("9" * 31, 30),
                          ("-" + "9" * 31, 31), ("1.", 1), ("1_0", 1), ("1a", 1), ("\u0661", 0), ("(show -)", 7), ("- 1", 1)):
            self.assertEqual(at_of(signs), at, signs)

    def test_names(self):
        for x in ("a", "abcdefgh", "calls", "cal", "l", "letx", "shows", "zzzzzzzz"):
            self.assertEqual(read(f"(fun {x} {x})"), ("fun", x, name(x)))
            self.assertEqual(read(x, [x]), name(x))
        for signs, at in (("(fun abcdefghi 1)", 13), ("(fun call 1)", 9), ("(fun x y)", 7), ("(fun X 1)", 5), ("(fun x1 1)", 6),
                          ("(fun pairs pair)", 15), ("(fun show(show 1))", 9), ("(fun ab a)", 9), ("(fun ab abc)", 10),
                          ("(fun ab (show b))", 14)):
            self.assertEqual(at_of(signs), at, signs)

    def test_where_names_are_free(self):
        for signs in ("(let x 1 x)", "(def y x x y)", "(def y x y 1)", "(open 1 a b (pair a b))", "(keep k k)",
                      "(fun x (fun y (pair x y)))", "(let x 1 (let x x x))", "(open (let q 1 q) a b a)"):
            self.assertIs(at_of(signs), True)
        for signs, at in (("(let x x 1)", 7), ("(def y x 1 x)", 11), ("(open a a b 1)", 6), ("(pair (fun x x) x)", 16),
                          ("(pair (let x 1 x) x)", 18), ("x", 0), ("(let x 1 y)", 9)):
            self.assertEqual(at_of(signs), at, signs)
        self.assertEqual(read("(let x x 1)", ["x"]), ("let", "x", name("x"), number(1)))
        self.assertEqual(at_of("(pair ab abc)", ["ab"]), 11)
        self.assertIs(at_of("(pair ab abc)", ["abc", "ab", "ab"]), True)

    def test_two_names_that_must_differ(self):
        for signs, at in (("(def y y 1 2)", 8), ("(def ab ab 1 2)", 10), ("(def ab abc 1 2)", True), ("(def ab a 1 2)", True),
                          ("(open 1 a a 2)", 11), ("(open 1 a ab 2)", True), ("(def abcdefgh abcdefgh 1 2)", 21),
                          ("(def abcdefgh abcdefgi 1 2)", True), ("(open 1 abcdefgh abcdefgh 2)", 24),
                          ("(def abcdefgh abcdefg 1 2)", True), ("(open 1 call b 2)", 12), ("(open 1 a(show 2))", 9)):
            self.assertEqual(at_of(signs), at, signs)

    def test_every_beginning(self):
        r = random.Random(2)
        for program in r.sample(PROGRAMS, 40):
            signs = spaced(r, program)[:150]
            for at in range(len(signs)):
                self.assertIn(signs[at], offers(signs[:at]))
            whole = spaced(r, program)
            for at in [r.randrange(len(whole)) for _ in range(10)]:
                if at_of(whole[:at]) is not True:
                    self.assertEqual(at_of(whole[:at]), at)

    def test_refused_at_the_first_sign_behind_which_nothing_goes_on(self):
        r = random.Random(3)
        tried = 0
        for program in r.sample(PROGRAMS, 60):
            signs = spaced(r, program)
            at = r.randrange(len(signs) + 1)
            for other in r.sample(SIGNS, 12):
                made = signs[:at] + other + signs[at:]
                found = at_of(made)
                if found is True:
                    continue
                # What is ahead of it can be completed; with it nothing can.
                going = completed(made[:found])
                self.assertTrue(going.startswith(made[:found]))
                self.assertIs(at_of(going), True)
                if found < len(made):
                    self.assertNotIn(made[found], offers(made[:found]))
                    with self.assertRaises(BadText) as caught:
                        completed(made[:found + 1])
                    self.assertEqual(caught.exception.at, found)
                    with self.assertRaises(BadText) as caught:
                        offers(made)
                    self.assertEqual(caught.exception.at, found)
                    tried += 1
        self.assertGreater(tried, 200)

    def test_long_texts(self):
        blanks = " \n" * 2000
        self.assertEqual(read(blanks + "(show" + blanks + "7" + blanks + ")" + blanks), ("show", number(7)))
        self.assertEqual(at_of(blanks + "(show" + blanks + "7 7"), 2 * len(blanks) + 7)
        wide = "(pair " * 40 + "x" + " (show xxxxxxxx))" * 40
        self.assertEqual(at_of(wide, ["x"]), wide.index("xx") + 1)
        names = ["x" * many for many in range(1, 9)] + [letter * 3 for letter in LETTERS] * 70
        self.assertEqual(len(words_of(text(read(wide, names)))), 281)
        self.assertEqual(at_of("7" * 400000), 30)

    def test_wrong_inputs(self):
        for value in [None, 5, b"1", ["1"], ("1",), {}, True, TWICE]:
            for told in (read, offers, completed):
                with self.assertRaises(BadText) as caught:
                    told(value, None)
                self.assertIsNone(caught.exception.at)
        for names in [None, "x", 5, {"x": 1}, {"x"}, ["x", 1], ["let"], ["X"], [""], ["abcdefghi"], (None,), [["x"]]]:
            for told in (read, offers, completed):
                self.assertRaises(BadNames, told, ")", names)
        for names in ((), [], ["x"], ("x", "x"), [x * 2 for x in LETTERS]):
            self.assertEqual(read("7", names), number(7))
            self.assertEqual(completed("7", names=names), "7")


def parts_of(e):
    return [e] + [part for item in e if isinstance(item, tuple) for part in parts_of(item)]


class OffersTest(unittest.TestCase):
    def test_by_hand(self):
        between = ["\n", " "]
        for signs, names, wanted in (
                ("", (), STARTS), ("", ["x", "ab"], [*STARTS, "a", "x"]), (" ", (), STARTS), ("(show ", (), STARTS),
                ("1", (), [*between, *DIGITS]), ("0", (), between), ("-", (), list("123456789")), ("-1", (), [*between, *DIGITS]),
                ("9" * 29, (), [*between, *DIGITS]), ("9" * 30, (), between), ("-" + "9" * 30, (), between),
                ("1 ", (), between), ("(show 1)", (), between), ("(show 1", (), [*between, ")", *DIGITS]),
                ("(show 1 ", (), [*between, ")"]), ("(show (show 1)", (), [*between, ")"]),
                ("(", (), [*between, *"cdfklmopst"]), ("( ", (), [*between, *"cdfklmopst"]), ("(l", (), ["e"]),
                ("(le", (), ["s", "t"]), ("(let", (), between), ("(c", (), ["a", "h"]), ("(p", (), ["a", "l"]), ("(s", (), ["a", "h"]),
                ("(call", (), [*between, "("]), ("(plus", (), [*between, "("]), ("(let ", (), [*between, *LETTERS]),
                ("(let x", (), [*between, "(", *LETTERS]), ("(let call", (), list(LETTERS)), ("(fun let", (), list(LETTERS)),
                ("(let abcdefgh", (), [*between, "("]), ("(let abcdefg", (), [*between, "(", *LETTERS]),
                ("(def y", (), [*between, *LETTERS]), ("(def y ", (), [*between, *LETTERS]), ("(def y y", (), list(LETTERS)),
                ("(def abcdefgh abcdefg", (), [*between, "(", *[letter for letter in LETTERS if letter != "h"]]),
                ("(open 1", (), [*between, *DIGITS]), ("(open 1 ", (), [*between, *LETTERS]),
                ("(open(show 1)", (), [*between, *LETTERS]), ("(open 1 a ", (), [*between, *LETTERS]),
                ("(open 1 a b", (), [*between, "(", *LETTERS]), ("(call 1", (), [*between, "(", *DIGITS]),
                ("(pair x", ["x", "xy", "xyz", "z"], [*between, "(", "y"]), ("(pair xyz", ["x", "xy", "xyz"], [*between, "("]),
                ("(pair xy", ["x", "xyz"], ["z"]), ("x", ["x"], between), ("(let x 1 ", ["y"], [*STARTS, "x", "y"]),
                ("(let x ", ["y"], [*STARTS, "y"]), ("(def y x ", (), [*STARTS, "x", "y"]), ("(def y x 1 ", (), [*STARTS, "y"])):
            with self.subTest(signs=signs, names=names):
                self.assertEqual(offers(signs, names), wanted)
        self.assertEqual(offers(names=["q"], text="(show "), [*STARTS, "q"])

    def test_each_sign(self):
        r = random.Random(4)
        for program in r.sample(PROGRAMS, 25):
            signs = spaced(r, program)
            signs = signs[:r.randint(0, len(signs))]
            found = offers(signs)
            self.assertEqual(found, sorted(found))
            for sign in SIGNS + "\tAZ_.,[]+'\u00e4":
                if sign in found:
                    self.assertIs(at_of(completed(signs + sign)), True)
                else:
                    self.assertEqual(at_of(signs + sign), len(signs))

    def test_what_is_told_is_new(self):
        offers("(").clear()
        self.assertTrue(offers("("))


class CompletedTest(unittest.TestCase):
    def test_by_hand(self):
        for signs, names, wanted in (
                ("", (), "0"), ("", ["a"], "0"), (" ", (), " 0"), ("7", (), "7"), ("7 ", (), "7 "), ("-", (), "-1"),
                ("(", (), "(show 0)"), ("( ", (), "( show 0)"), ("(\n", (), "(\nshow 0)"), ("(s", (), "(show 0)"),
                ("(sa", (), "(same 0 0)"), ("(l", (), "(less 0 0)"), ("(le", (), "(less 0 0)"), ("(let", (), "(let a 0 0)"),
                ("(p", (), "(pair 0 0)"), ("(pl", (), "(plus 0 0)"), ("(k", (), "(keep a 0)"), ("(f", (), "(fun a 0)"),
                ("(d", (), "(def a b 0 0)"), ("(o", (), "(open 0 a b 0)"), ("(m", (), "(minus 0 0)"), ("(t", (), "(times 0 0)"),
                ("(ch", (), "(choose 0 0 0)"), ("(call 1", (), "(call 1 0)"), ("(call 1 ", (), "(call 1 0)"),
                ("(call (show 1)", (), "(call (show 1)0)"), ("(open(show 1)", (), "(open(show 1)a b 0)"),
                ("(def a", (), "(def a b 0 0)"), ("(def b", (), "(def b a 0 0)"), ("(def a ", (), "(def a b 0 0)"),
                ("(def ab ab", (), "(def ab aba 0 0)"), ("(def aba aba", (), "(def aba abaa 0 0)"),
                ("(def calla call", (), "(def calla callb 0 0)"), ("(fun call", (), "(fun calla 0)"),
                ("(fun x", (), "(fun x 0)"), ("(fun x ", (), "(fun x 0)"), ("(show -", (), "(show -1)"),
                ("xy", ["xya", "xyz", "xyab"], "xya"), ("xy", ["xy", "xya"], "xy"), ("x", ["xbb", "xcc", "xa", "xaa"], "xa"),
                ("(pair x", ["xbb", "xab"], "(pair xab 0)"), ("(pair 0", (), "(pair 0 0)"), ("(show (show (show 1", (), "(show (show (show 1)))"),
                ("(let x 1 (let yy x y", (), "(let x 1 (let yy x yy))"), ("(choose(", (), "(choose(show 0)0 0)")):
            with self.subTest(signs=signs, names=names):
                self.assertEqual(completed(signs, names), wanted)
        self.assertEqual(completed(names=["qq"], text="q"), "qq")

    def test_the_shortest_of_all(self):
        r = random.Random(5)
        for program in r.sample(PROGRAMS, 40):
            signs = spaced(r, program)
            signs = signs[:r.randint(0, len(signs))]
            found = completed(signs)
            # From few signs ahead of its end all going on can be tried.
            for many in (1, 2):
                ahead = found[:max(len(found) - many, 0)]
                self.assertEqual(completed(ahead), self.soonest(ahead, many))
        for signs in ("(l", "(s", "(open 1", "(let x 1", "(def abc abc", "(call", "(show -", "(fun pair", "(keep", "(pair 1 "):
            for names in ((), ("x", "ab")):
                found = completed(signs, names)
                ahead = found[:max(len(found) - 3, len(signs))]
                self.assertEqual(completed(ahead, names), self.soonest(ahead, 3, names))

    def soonest(self, signs, most, names=()):
        """The least of the shortest right texts that begin so, found by trying all that is offered."""
        row = [signs]
        for _ in range(most + 1):
            right = [one for one in row if at_of(one, names) is True]
            if right:
                return min(right)
            row = [one + sign for one in row for sign in offers(one, names) if sign != "\n"]
        return None

    def test_completed_is_right(self):
        r = random.Random(6)
        for program in PROGRAMS:
            signs = spaced(r, program)
            signs = signs[:r.randint(0, len(signs))]
            found = completed(signs)
            self.assertTrue(found.startswith(signs) and "\n" not in found[len(signs):])
            self.assertIs(at_of(found), True)
            self.assertEqual(completed(found), found)


class LimitsTest(unittest.TestCase):
    def test_400_nodes(self):
        # 44 pairs of nine nodes each are 396, and the last part has to be just four.
        ahead = "(pair(choose(pair 1 2)(show 3)(show 4))" * 44
        behind = ")" * 44
        self.assertEqual(len([word for word in words_of(ahead) if word not in "()"]), 44 * 9)
        self.assertIs(at_of(ahead + "(show(show(show 1)))" + behind), True)
        self.assertIs(at_of(ahead + "(choose 1 2 3)" + behind), True)
        self.assertIs(at_of(ahead + "(show(pair 1 2))" + behind), True)
        for more, at in (("(show(show(show(show 1))))", 15), ("(choose 1 2(show 3))", 11), ("(show(choose 1 2 3))", 7),
                         ("(pair(pair 1 2)3)", 6), ("(pair(show 1)(show 2))", 13), ("(show(let x 1(show x)))", 13)):
            self.assertEqual(at_of(ahead + more + behind), len(ahead) + at, more)
        self.assertEqual(offers(ahead + "("), ["\n", " ", *"cdfklmopst"])
        self.assertEqual(offers(ahead + "(show("), ["\n", " ", *"cdfklmopst"])
        self.assertEqual(offers(ahead + "(show(c"), ["a"])
        self.assertEqual(offers(ahead + "(c"), ["a", "h"])
        self.assertEqual(offers(ahead + "(show(show("), ["\n", " ", *"fks"])
        self.assertEqual(offers(ahead + "(show(show(s"), ["h"])
        self.assertEqual(offers(ahead + "(show(show(show "), ["\n", " ", "-", *DIGITS])
        self.assertEqual(offers(ahead + "(choose"), ["\n", " "])
        self.assertEqual(offers(ahead + "(choose "), ["\n", " ", "-", *DIGITS])
        self.assertEqual(offers(ahead + "(pair"), ["\n", " ", "("])
        self.assertEqual(offers(ahead + "(pair 1"), ["\n", " ", "(", *DIGITS])
        self.assertEqual(offers(ahead + "(pair(show 1)"), ["\n", " ", "-", *DIGITS])
        self.assertEqual(completed(ahead + "(show(show("), ahead + "(show(show(show 0)))" + behind)
        self.assertEqual(completed(ahead + "(show(show(f"), ahead + "(show(show(fun a 0)))" + behind)
        self.assertEqual(completed(ahead + "(choose"), ahead + "(choose 0 0 0)" + behind)
        whole = read(ahead + "(show(show(show 1)))" + behind)
        self.assertTrue(is_expression(whole))
        self.assertEqual(read(laid(whole, 80)), whole)

    def test_60_levels(self):
        ahead = "(show " * 58
        self.assertIs(at_of(ahead + "(show 1)" + ")" * 58), True)
        self.assertIs(at_of(ahead + "(choose 1 2 3)" + ")" * 58), True)
        self.assertEqual(at_of(ahead + "(show (show 1))" + ")" * 58), len(ahead) + 6)
        self.assertEqual(at_of(ahead + "(pair 1(show 1))" + ")" * 58), len(ahead) + 7)
        self.assertEqual(offers(ahead), STARTS)
        self.assertEqual(offers(ahead + "(show "), [sign for sign in STARTS if sign != "("])
        self.assertEqual(offers(ahead + "(call"), ["\n", " "])
        self.assertEqual(offers(ahead + "(let x"), ["\n", " ", *LETTERS])
        self.assertEqual(completed(ahead + "(show "), ahead + "(show 0)" + ")" * 58)
        deep = read(ahead + "(show 1)" + ")" * 58)
        self.assertEqual((read(laid(deep, 1)), read(laid(deep, 200))), (deep, deep))

    def test_all_texts_within_small_limits(self):
        """With few letters and nodes all right texts are told one by one, and held to what is offered."""
        limits = {"LETTERS": "ab", "MOST_LETTERS": 2, "MOST_NODES": 3, "MOST_ROW": 3, "MOST_DIGITS": 1, "DIGITS": "01"}
        with mock.patch.multiple("returnsdue.reading", **limits), mock.patch("returnsdue.completing.LETTERS", "ab"):
            for free in ((), ("ab", "b")):
                self.check_all(All(("a", "b", "ab", "ba", "bb", "aa"), 3, 3).texts(free), free)

    def check_all(self, texts, free):
        behind = {}
        soonest = {}
        for whole in texts:
            for at in range(len(whole) + 1):
                behind.setdefault(whole[:at], set()).update(whole[at:at + 1])
                least = soonest.get(whole[:at], whole)
                soonest[whole[:at]] = min(least, whole, key=lambda one: (len(one), one))
        for signs, wanted in behind.items():
            found = set(offers(signs, free)) - {"\n"}
            if " " not in wanted:
                found.discard(" ")
            # In these texts a blank stands between a bracket and what is behind it, though it need not.
            if signs.endswith(")") and " " in wanted:
                found = {" "}
            elif signs and signs[-1] not in " (":
                found.discard("(")
            self.assertEqual(found, wanted, signs)
            if ")" not in signs:
                self.assertEqual(completed(signs, free), soonest[signs])


class All:
    """All texts of at most so many nodes and levels, with these names and the numbers 0, 1 and -1."""

    def __init__(self, names, nodes, levels):
        self.names = names
        self.nodes = nodes
        self.levels = levels

    def texts(self, free):
        return {one for many in range(1, self.nodes + 1) for one in self.of(many, self.levels, frozenset(free))}

    def of(self, many, levels, scope):
        if many < 1 or levels < 1:
            return []
        if many == 1:
            return [*sorted(scope), "0", "1", "-1"]
        found = []
        for head in HEADS:
            for sizes in self.shared(many - 1, PARTS.get(head, 2)):
                found += self.told(head, sizes, levels - 1, scope)
        return found

    def shared(self, many, parts):
        if parts == 1:
            return [(many,)] if many > 0 else []
        return [(one, *rest) for one in range(1, many) for rest in self.shared(many - one, parts - 1)]

    def told(self, head, sizes, levels, scope):
        if head in ("fun", "keep"):
            return [f"({head} {x} {e})" for x in self.names for e in self.of(sizes[0], levels, scope | {x})]
        if head == "let":
            return [f"(let {x} {e} {f})" for x in self.names for e in self.of(sizes[0], levels, scope)
                    for f in self.of(sizes[1], levels, scope | {x})]
        pairs = [(x, y) for x in self.names for y in self.names if x != y]
        if head == "open":
            return [f"(open {e} {x} {y} {f})" for x, y in pairs for e in self.of(sizes[0], levels, scope)
                    for f in self.of(sizes[1], levels, scope | {x, y})]
        if head == "def":
            return [f"(def {y} {x} {e} {f})" for x, y in pairs for e in self.of(sizes[0], levels, scope | {x, y})
                    for f in self.of(sizes[1], levels, scope | {y})]
        rows = [""]
        for size in sizes:
            rows = [f"{row} {e}" for row in rows for e in self.of(size, levels, scope)]
        return [f"({head}{row})" for row in rows]


class LaidTest(unittest.TestCase):
    def test_by_hand(self):
        program = ("let", "x", number(4), call(("fun", "y", name("x")), ("open", name("x"), "a", "b", number(3))))
        self.assertEqual(text(program), "(let x 4 (call (fun y x) (open x a b 3)))")
        self.assertEqual(laid(program, 41), text(program))
        self.assertEqual(laid(expression=program, width=40), "(let x\n  4\n  (call (fun y x) (open x a b 3)))")
        self.assertEqual(laid(program, 34), "(let x\n  4\n  (call (fun y x) (open x a b 3)))")
        self.assertEqual(laid(program, 33), "(let x\n  4\n  (call\n    (fun y x)\n    (open x a b 3)))")
        self.assertEqual(laid(program, 20), laid(program, 33))
        self.assertEqual(laid(program, 19), "(let x\n  4\n  (call\n    (fun y x)\n    (open\n      x\n      a b\n      3)))")
        self.assertEqual(laid(program, 13), laid(program, 19))
        self.assertEqual(laid(program, 12), "(let x\n  4\n  (call\n    (fun y\n      x)\n    (open\n      x\n      a b\n      3)))")
        self.assertEqual(laid(program, 1), laid(program, 12))

    def test_first_rows(self):
        x = name("x")
        for e, rows in (
                (("fun", "x", x), "(fun x\n  x)"), (("keep", "k", number(1)), "(keep k\n  1)"),
                (("def", "y", "x", x, number(1)), "(def y x\n  x\n  1)"), (("let", "x", number(1), x), "(let x\n  1\n  x)"),
                (("work", "plus", x, number(1)), "(plus\n  x\n  1)"), (("choose", x, x, x), "(choose\n  x\n  x\n  x)"),
                (("show", x), "(show\n  x)"), (("pair", x, x), "(pair\n  x\n  x)"), (call(x, x), "(call\n  x\n  x)"),
                (("open", x, "a", "b", x), "(open\n  x\n  a b\n  x)"), (number(-12345), "-12345"), (name("abcdefgh"), "abcdefgh")):
            self.assertEqual(laid(e, 1), rows)
            self.assertEqual(laid(e, 200), text(e))
            if len(text(e)) > 1 and "(" in rows:
                self.assertEqual(laid(e, len(text(e))), text(e))
                self.assertEqual(laid(e, len(text(e)) - 1), rows)

    def test_brackets_that_still_count(self):
        # The inner pair is behind two blanks and ahead of one bracket more: 2 + 10 + 1.
        e = ("show", ("pair", number(1), number(2)))
        self.assertEqual(text(e), "(show (pair 1 2))")
        self.assertEqual(laid(e, 16), "(show\n  (pair 1 2))")
        self.assertEqual(laid(e, 13), "(show\n  (pair 1 2))")
        self.assertEqual(laid(e, 12), "(show\n  (pair\n    1\n    2))")
        # What is not the last part has no brackets behind it.
        e = ("pair", ("pair", number(1), number(2)), number(3))
        self.assertEqual(laid(e, 12), "(pair\n  (pair 1 2)\n  3)")
        self.assertEqual(laid(e, 11), "(pair\n  (pair\n    1\n    2)\n  3)")
        e = ("show", ("show", ("show", ("show", number(1)))))
        self.assertEqual(laid(e, 17), "(show\n  (show\n    (show\n      (show 1))))")
        self.assertEqual(laid(e, 16), "(show\n  (show\n    (show\n      (show\n        1))))")

    def test_second_reading(self):
        r = random.Random(7)
        for program in PROGRAMS:
            for width in {1, 200, r.randint(2, 60), r.randint(2, 60), min(len(text(program)), 200)}:
                self.assertEqual(laid(program, width), "\n".join(self.rows(program, 0, 0, width)))
                self.assertEqual(read(laid(program, width)), program)

    def rows(self, e, blanks, brackets, width):
        whole = text(e)
        if e[0] in ("name", "number") or blanks + len(whole) + brackets <= width:
            return [" " * blanks + whole]
        head, *rest = e[1:] if e[0] == "work" else e
        items = []
        for item in rest:
            if isinstance(item, str) and (not items or isinstance(items[-1], str)):
                items.append(item)
            elif isinstance(item, str) and isinstance(items[-1], list):
                items[-1].append(item)
            else:
                items.append([item] if isinstance(item, str) else item)
        first = " ".join(["(" + head] + [item for item in items if isinstance(item, str)])
        rows = [" " * blanks + first]
        below = [item for item in items if not isinstance(item, str)]
        for item in below:
            if isinstance(item, list):
                rows.append(" " * (blanks + 2) + " ".join(item))
            else:
                rows += self.rows(item, blanks + 2, brackets + 1 if item is below[-1] else 0, width)
        return rows[:-1] + [rows[-1] + ")"]

    def test_widths(self):
        for width in [None, True, False, 0, 201, -1, "5", (5,), [5], 10 ** 20]:
            self.assertRaises(BadWidth, laid, TWICE, width)
        self.assertRaises(BadExpression, laid, ["number", 1], 0)
        self.assertEqual(laid(number(5), 1), "5")


if __name__ == "__main__":
    unittest.main()
