"""Promises 26 and 27: trees, how often they return, their lines and needs, and bills."""

import copy
import unittest

from returnsdue.billing import bill
from returnsdue.errors import BadExpression, BadProgram, BadReturns, BadTree, TooMany
from returnsdue.instances import instances
from returnsdue.judging import is_bill, is_tree, lines, many, needs
from returnsdue.running import run
from returnsdue.terms import is_program, part_at, paths
from tests.programs import (
    BY_HAND, ENDLESS, ENTERED, STUCK, TWICE, call, name, number, random_programs, variants,
)
from tests.reference import NoBillOf, is_bill_of, needs_of, returns_of
from tests.values import ODD, nested

KINDS = ["call", "choose", "def", "enter", "hold", "keep", "let", "look", "open", "show", "work"]
LOOK = ("name",)
HOLD = ("number",)
END = ("end", number(5))
ENTERED_BILL = (number(5), ("keep", 1, ("call", LOOK, ((HOLD, (("entered", (END,)),)),))))
TREES = {
    LOOK: 1, HOLD: 1, ("fun", ()): 1, ("fun", (None, LOOK)): 1, ("keep", 0, LOOK): 1, ("keep", 4, LOOK): 5,
    ("def", (), LOOK): 1, ("def", (None, HOLD), ("keep", 2, LOOK)): 3, ("let", LOOK, (HOLD,)): 1,
    ("let", ("keep", 1, LOOK), (HOLD, ("keep", 1, HOLD))): 3, ("open", LOOK, (LOOK,)): 1,
    ("choose", LOOK, ((-3, LOOK),)): 1, ("call", LOOK, ((LOOK, (("called", (), 0),)),)): 0,
    ("call", LOOK, ((LOOK, (("called", (END,), 2),)),)): 2, ("call", LOOK, ((LOOK, (("entered", ()),)),)): 0,
    ("call", ("keep", 1, LOOK), ((LOOK, (("called", (), 1),)), (("keep", 1, LOOK), (
        ("entered", (END,)), ("called", (), 5))))): 6,
    ("work", LOOK, ((LOOK, ((1, 2),)),)): 1, ("work", LOOK, ((("keep", 1, LOOK), ((1, 2), (1, -3))),)): 2,
    ("show", LOOK, (7,)): 1, ("show", ("keep", 1, LOOK), (7, 8)): 2, ("pair", LOOK, (LOOK,)): 1,
    ("pair", ("keep", 1, LOOK), (("keep", 2, LOOK), HOLD)): 4,
    ("let", ("call", LOOK, ((LOOK, (("entered", ()),)),)), ()): 0,
}
NO_TREES = [
    (), ("name", 1), ("number", 5), ("fun",), ("fun", LOOK), ("fun", [LOOK]), ("fun", (1,)), ("fun", ((),)),
    ("keep", True, LOOK), ("keep", -1, LOOK), ("keep", 0, None), ("keep", 0), ("keep", "0", LOOK),
    ("def", LOOK), ("def", (), None), ("def", [], LOOK), ("def", (0,), LOOK), ("let", LOOK, ()), ("let", LOOK, LOOK),
    ("let", LOOK, (LOOK, LOOK)), ("let", None, (LOOK,)), ("let", LOOK, (None,)), ("let", LOOK, [LOOK]),
    ("open", LOOK, (("keep", 1, None),)), ("choose", LOOK, (LOOK,)), ("choose", LOOK, ((True, LOOK),)),
    ("choose", LOOK, (("1", LOOK),)), ("choose", LOOK, ((1, None),)), ("choose", LOOK, ([1, LOOK],)),
    ("choose", LOOK, ((1, LOOK, LOOK),)), ("call", LOOK, ()), ("call", LOOK, ((LOOK,),)), ("call", LOOK, ((LOOK, ()),)),
    ("call", LOOK, ((LOOK, (("called", ()),)),)), ("call", LOOK, ((LOOK, (("called", (), True),)),)),
    ("call", LOOK, ((LOOK, (("called", (), -1),)),)), ("call", LOOK, ((LOOK, (("called", [], 1),)),)),
    ("call", LOOK, ((LOOK, (("called", ((),), 1),)),)), ("call", LOOK, ((LOOK, (("entered", (), 1),)),)),
    ("call", LOOK, ((LOOK, (("entered", None),)),)), ("call", LOOK, ((LOOK, (["entered", ()],)),)),
    ("call", LOOK, ((LOOK, [("entered", ())]),)), ("call", LOOK, ((LOOK, (("entered", ()), ("entered", ()))),)),
    ("work", LOOK, ((LOOK, ()),)), ("work", LOOK, ((LOOK, ((1,),)),)), ("work", LOOK, ((LOOK, ((1, True),)),)),
    ("work", LOOK, ((LOOK, ([1, 2],)),)), ("work", LOOK, ((LOOK, ((1, 2), (1, 2))),)), ("show", LOOK, ()),
    ("show", LOOK, (True,)), ("show", LOOK, (1, 2)), ("show", LOOK, [1]), ("show", LOOK, ("1",)),
    ("pair", LOOK, ()), ("pair", LOOK, (LOOK, LOOK)), ("looked",), ["name"], (["name"],), ("name", ()), (LOOK,),
]


def counts(**several):
    return {kind: several.get(kind, 0) for kind in KINDS}


def billed(programs):
    """The pairs of those of the programs that have a bill, and their bills."""
    found = []
    for program in programs:
        try:
            value = bill(program)
        except TooMany:
            continue
        if value is not None:
            found.append((program, value))
    return found


class TreesTest(unittest.TestCase):
    def test_trees(self):
        for tree, returns in TREES.items():
            with self.subTest(tree=tree):
                self.assertIs(is_tree(tree), True)
                self.assertEqual(many(tree), returns)
                self.assertEqual(returns_of(tree), returns)
                for inner in (("fun", (tree,)), ("keep", 0, tree), ("def", (tree,), tree)):
                    self.assertIs(is_tree(inner), True)

    def test_no_trees(self):
        odd = [value for value in ODD if value not in list(TREES) and repr(value)[:9] != "('keep', "]
        for value in NO_TREES + odd:
            places = [value, ("keep", 0, value), ("def", (LOOK,), value), ("let", LOOK, (value,)), ("let", value, (LOOK,))]
            if value is not None:
                places += [("fun", (value,)), ("def", (value,), LOOK)]
            for tree in places:
                with self.subTest(tree=repr(tree)[:100]):
                    self.assertIs(is_tree(tree), False)
                    self.assertRaises(BadTree, many, tree)
                    self.assertRaises(BadTree, lines, tree)

    def test_deep_trees(self):
        deep = nested(299, lambda value: ("keep", 1, value), LOOK)
        self.assertEqual((is_tree(deep), many(deep), lines(deep)), (True, 300, counts(keep=299, look=1)))
        self.assertIs(is_tree(nested(299, lambda value: ("keep", 1, value), None)), False)

    def test_lines(self):
        tree = ("let", ("keep", 1, LOOK), (
            ("pair", HOLD, (("keep", 1, ("fun", (None, LOOK))),)),
            ("call", LOOK, ((("show", HOLD, (2,)), (("called", (), 3),)),))))
        self.assertEqual(lines(tree), counts(let=2, keep=2, look=3, hold=2 + 1 + 2, call=1, show=1))
        self.assertEqual(lines(("choose", LOOK, ((0, ("work", HOLD, ((HOLD, ((1, 2),)),))),))),
                         counts(choose=1, look=1, hold=2, work=1))
        self.assertEqual(lines(("open", LOOK, (("def", (), HOLD),))), counts(open=1, look=1, hold=1, **{"def": 1}))
        self.assertEqual(lines(ENTERED_BILL[1]), counts(keep=1, look=1, hold=1, enter=1))
        self.assertEqual(list(lines(LOOK)), KINDS)


class BillsTest(unittest.TestCase):
    def test_example(self):
        self.assertIs(is_bill(ENTERED, ENTERED_BILL), True)
        self.assertEqual(needs(ENTERED, ((END,),), ENTERED_BILL[1]), {})
        self.assertEqual(needs(ENTERED, ((),), ENTERED_BILL[1]), None)
        self.assertEqual(needs(ENTERED, ((END,),), ENTERED_BILL[1][:1]), None)
        self.assertEqual(needs(ENTERED[2], (), ENTERED_BILL[1][2]), {"k": (("enter", (END,)),)})
        self.assertEqual(needs(ENTERED[2], ((),), ENTERED_BILL[1][2]), None)

    def test_needs_by_hand(self):
        uses = (("number", 3), END)
        self.assertEqual(needs(name("x"), (uses,), LOOK), {"x": uses})
        self.assertEqual(needs(name("x"), ((),), LOOK), {})
        self.assertEqual(needs(name("x"), (), LOOK), None)
        self.assertEqual(needs(name("x"), (uses, uses), LOOK), None)
        self.assertEqual(needs(name("x"), (uses,), HOLD), None)
        self.assertEqual(needs(number(5), ((("number", 5), END),), HOLD), {})
        self.assertEqual(needs(number(4), ((("number", 5), END),), HOLD), None)
        self.assertEqual(needs(number(5), ((("open", (), ()),),), HOLD), None)
        sum_of = ("work", "plus", name("b"), ("work", "plus", name("a"), name("b")))
        tree = ("work", LOOK, ((("work", LOOK, ((LOOK, ((1, 2),)),)), ((2, 3),)),))
        found = needs(sum_of, ((("number", 5),),), tree)
        self.assertEqual(found, {"a": (("number", 1),), "b": (("number", 2), ("number", 2))})
        self.assertEqual(list(found), ["a", "b"])
        self.assertEqual(needs(sum_of, ((("number", 6),),), tree), None)

    def test_needs_of_functions(self):
        end = (("number", 7),)
        fun = ("fun", "x", ("pair", name("x"), name("z")))
        opened = (("open", (("number", 1),), end),)
        made = ("call", (("number", 1),), (opened,))
        kid = ("pair", LOOK, (LOOK,))
        self.assertEqual(needs(fun, ((made,),), ("fun", (kid,))), {"z": end})
        self.assertEqual(needs(fun, ((made, ("end", ("function",)), made),), ("fun", (kid, None, kid))), {"z": end + end})
        self.assertEqual(needs(fun, ((made,),), ("fun", (None,))), None)
        self.assertEqual(needs(fun, ((("end", ("function",)),),), ("fun", (kid,))), None)
        self.assertEqual(needs(fun, ((made,),), ("fun", ())), None)
        self.assertEqual(needs(fun, ((("call", (), (opened,)),),), ("fun", (kid,))), None)
        self.assertEqual(needs(fun, ((("enter", ()),),), ("fun", (kid,))), None)

    def test_needs_of_a_def(self):
        e = ("def", "y", "x", ("choose", name("x"), call(name("y"), name("z")), number(9)), call(name("y"), number(1)))
        end = (("end", number(9)),)
        one = ("choose", LOOK, ((1, ("call", LOOK, ((LOOK, (("called", (("number", 0),), 1),)),))),))
        two = ("choose", LOOK, ((0, HOLD),))
        last = ("call", LOOK, ((HOLD, (("called", (("number", 1),), 1),)),))
        self.assertEqual(needs(e, (end,), ("def", (one, two), last)), {"z": (("number", 0),)})
        for kids in ((one,), (two, one), (one, two, two), (), (one, None), (None, two)):
            self.assertEqual(needs(e, (end,), ("def", kids, last)), None)

    def test_parts_that_return_three_times(self):
        def read(n):
            return (("number", n),)
        # Whoever is called with k enters it twice, so the keep returns three times.
        kept = ("keep", "k", call(name("g"), name("k")))
        for numbers in ((1, 2, 3), (3, 1, 1)):
            entered = (("enter", read(numbers[1])), ("enter", read(numbers[2])))
            tree = ("keep", 2, ("call", LOOK, ((LOOK, (("called", entered, 1),)),)))
            needed = (("call", entered, (read(numbers[0]),)),)
            self.assertEqual(needs(kept, tuple(read(n) for n in numbers), tree), {"g": needed})
            self.assertEqual(needs(kept, tuple(read(n + 1) for n in numbers), tree), None)
            pairs = tuple((10, n) for n in numbers)
            sums = tuple(read(10 + n) for n in numbers)
            work = ("work", "plus", name("a"), kept)
            self.assertEqual(needs(work, sums, ("work", LOOK, ((tree, pairs),))), {"a": read(10) * 3, "g": needed})
            self.assertEqual(needs(work, sums[::-1], ("work", LOOK, ((tree, pairs),))), None)
            self.assertEqual(needs(work, sums, ("work", LOOK, ((tree, pairs[::-1]),))), None)
            work = ("work", "plus", kept, name("a"))
            rows = tuple((LOOK, ((n, 10),)) for n in numbers)
            self.assertEqual(needs(work, sums, ("work", tree, rows)), {"g": needed, "a": read(10) * 3})
            self.assertEqual(needs(work, sums, ("work", tree, rows[::-1])), None)
            shown = tuple(read(n) for n in numbers)
            self.assertEqual(needs(("show", kept), shown, ("show", tree, numbers)), {"g": needed})
            self.assertEqual(needs(("show", kept), shown[::-1], ("show", tree, numbers)), None)
            opened = tuple((("open", read(n), read(7)), ("end", ("pair",)), ("open", (), read(8))) for n in numbers)
            second = ("pair", kept, name("b"))
            self.assertEqual(needs(second, opened, ("pair", tree, (LOOK,) * 3)), {"g": needed, "b": (read(7) + read(8)) * 3})
            self.assertEqual(needs(second, opened[::-1], ("pair", tree, (LOOK,) * 3)), None)
            let = ("let", "x", kept, ("show", name("x")))
            rows = tuple(("show", LOOK, (n,)) for n in numbers)
            self.assertEqual(needs(let, shown, ("let", tree, rows)), {"g": needed})
            self.assertEqual(needs(let, shown, ("let", tree, rows[::-1])), None)

    def test_a_keep_is_entered_or_ends_the_run(self):
        kept = ("keep", "k", ("show", name("k")))
        self.assertEqual(needs(kept, ((("number", 3),),), ("keep", 0, ("show", LOOK, (3,)))), None)
        kept = ("keep", "k", name("k"))
        self.assertEqual(needs(kept, ((("end", ("kept",)),),), ("keep", 0, LOOK)), {})
        self.assertEqual(needs(kept, ((("enter", ()),), ()), ("keep", 1, LOOK)), {})
        for use in (("number", 3), ("call", (), ()), ("open", (), ()), ("end", ("pair",)), END):
            self.assertEqual(needs(kept, ((use,),), ("keep", 0, LOOK)), None)

    def test_a_pair_is_opened_or_ends_the_run(self):
        pair = ("pair", name("a"), name("b"))
        tree = ("pair", LOOK, (LOOK,))
        self.assertEqual(needs(pair, ((("end", ("pair",)),),), tree), {})
        for use in (("number", 3), ("call", (), ()), ("enter", ()), ("end", ("kept",)), END):
            self.assertEqual(needs(pair, ((use,),), tree), None)
            self.assertEqual(needs(pair, ((("open", (), ()), use),), tree), None)

    def test_thirty_digits(self):
        most = 10 ** 30 - 1
        e = ("work", "plus", name("a"), name("b"))
        good = ("work", LOOK, ((LOOK, ((most, 0),)),))
        self.assertEqual(needs(e, ((("number", most),),), good), {"a": (("number", most),), "b": (("number", 0),)})
        for pair in ((most, 1), (most + 1, -1), (-1, most + 1), (-most, -1)):
            tree = ("work", LOOK, ((LOOK, (pair,)),))
            self.assertEqual(needs(e, ((("number", sum(pair)),),), tree), None)

    def test_needs_of_any_value(self):
        for value in [*ODD, *NO_TREES, *TREES]:
            self.assertIn(needs(name("x"), ((),), value), ({}, None))
            self.assertEqual(needs(name("x"), ((),), value) == {}, value == LOOK and isinstance(value, tuple))
            self.assertIs(is_bill(number(5), value), False)
            self.assertIs(is_bill(number(5), (number(5), value)), isinstance(value, tuple) and value == HOLD)

    def test_refused(self):
        for value in ODD:
            self.assertRaises(BadExpression, needs, value, 7, 7)
            self.assertRaises(BadProgram, is_bill, value, 7)
        self.assertRaises(BadProgram, is_bill, name("x"), 7)
        for returns in (None, 1, [], [()], (1,), ([],), (((),),), ((("number", True),),), ((END,), [END])):
            self.assertRaises(BadReturns, needs, name("x"), returns, 7)

    def test_by_name(self):
        self.assertEqual(needs(tree=LOOK, returns=((),), expression=name("x")), {})
        self.assertEqual(many(tree=LOOK), lines(tree=LOOK)["look"])
        self.assertIs(is_bill(value=(number(5), HOLD), program=number(5)), True)
        self.assertIs(is_tree(value=LOOK), True)

    def test_bills_of_no_program(self):
        for program in (ENDLESS, STUCK):
            self.assertIs(is_bill(program, ENTERED_BILL), False)
            self.assertIs(is_bill(program, (("stuck",), LOOK)), False)

    def test_no_end_but_the_very_one(self):
        tree = bill(("fun", "x", name("x")))[1]
        for end in (("function",), ("pair",), ("kept",), ("stuck",), ("more",), ["function"], "function", None, ()):
            self.assertIs(is_bill(("fun", "x", name("x")), (end, tree)), end == ("function",))
            self.assertIs(is_bill(("fun", "x", name("x")), [end, tree]), False)

    def test_nothing_near_a_bill_is_one(self):
        for program, value in billed(BY_HAND):
            self.assertIs(is_bill(program, value), True)
            for other in variants(value):
                if repr(other) != repr(value):
                    self.assertIs(is_bill(program, other), False)

    def test_bills_are_those_of_a_second_reading(self):
        for program, value in billed(random_programs(26, 80, is_program)):
            self.assertEqual((is_bill(program, value), is_bill_of(program, value)), (True, True))
            self.assertEqual((value[0], lines(value[1])), run(program, 400)[1:])
            for path in paths(program)[::3]:
                for returns, needed, tree in instances(program, path):
                    part = part_at(program, path)
                    self.assertEqual(needs(part, returns, tree), needed)
                    self.assertEqual(needs_of(part, returns, tree), needed)

    def test_variants_are_judged_as_by_a_second_reading(self):
        for program, value in billed(BY_HAND + random_programs(27, 40, is_program)):
            for path in paths(program)[1::2]:
                for returns, _, tree in instances(program, path)[:1]:
                    for at, other in enumerate(variants(tree)):
                        if at < 300 and is_tree(other):
                            self.check_variant(part_at(program, path), returns, other)

    def check_variant(self, part, returns, tree):
        try:
            wanted = needs_of(part, returns, tree)
        except NoBillOf:
            wanted = None
        self.assertEqual(needs(part, returns, tree), wanted)

    def test_nothing_is_changed(self):
        value = [number(5), ["keep", {"a": [1]}, LOOK]]
        before = copy.deepcopy(value)
        is_bill(number(5), value)
        is_tree(value)
        self.assertEqual(value, before)
        needs(name("x"), ((END,),), LOOK).clear()
        self.assertEqual(needs(name("x"), ((END,),), LOOK), {"x": (END,)})
        lines(LOOK).clear()
        self.assertEqual(list(lines(LOOK)), KINDS)


if __name__ == "__main__":
    unittest.main()
