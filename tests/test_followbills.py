"""Promises 74 to 77 and 79: bills of translations, made of the bills of the programs."""

import unittest

from returnsdue.billing import bill
from returnsdue.errors import BadBill, BadProgram, BadReturns, BadTold, BadUses, TooMany
from returnsdue.followbills import (
    bill_following, calls_following, followers, is_single, steps_following, uses_following)
from returnsdue.following import back, following
from returnsdue.instances import instances
from returnsdue.judging import is_bill, is_tree, lines, many
from returnsdue.ledger import Ledger
from returnsdue.stepper import Runner, Trail
from returnsdue.terms import is_program, paths
from tests.programs import (
    BY_HAND, ENDLESS, ENTERED, IDENTITY, STUCK, TWICE, call, chained, counted_down, loop, name, number, random_programs,
    returning_programs, summed, variants)
from tests.test_following import plain_following
from tests.values import ODD

FIVE = number(5)
ENDS = [("number", 5), ("number", -1), ("function",), ("pair",), ("kept",)]
NO_ENDS = [("stuck",), ("more",), ("gone", "frame", 0), ("number", True), ("number", None), ("number",), ("kept", 1), ["kept"],
           "kept", ("number", 1, 2), *ODD]
KINDS = ["call", "choose", "def", "enter", "hold", "keep", "let", "look", "open", "show", "work"]


def billed(programs):
    found = []
    for program in programs:
        try:
            value = bill(program)
        except TooMany:
            continue
        if value is not None:
            found.append((program, value))
    return found


BILLED = billed(BY_HAND + [chained(57), summed(20), loop(12, name("v"))] + random_programs(75, 200, is_program)
                + returning_programs(76, 100, is_program))


def star(told):
    return ("function",) if told == ("kept",) else told


def plain_uses(uses, told):
    """The translation of uses, written out as the document tells it."""
    end = (("end", star(told)),)

    def starred(use):
        if use[0] == "number":
            return use
        if use[0] == "end":
            return ("end", star(use[1]))
        if use[0] == "open":
            return ("open", plain_uses(use[1], told), plain_uses(use[2], told))
        returns = use[2] if use[0] == "call" else ()
        return ("call", plain_uses(use[1], told), ((("call", plain_calls(returns, told), (end,)),),))

    return tuple(starred(use) for use in uses)


def plain_calls(returns, told):
    return tuple(("call", plain_uses(uses, told), ((("end", star(told)),),)) for uses in returns)


def run_of_translation(program):
    """The translation's run, whatever its size."""
    runner = Runner(plain_following(program), Trail())
    while runner.step():
        pass
    return runner


class UsesTest(unittest.TestCase):
    def test_by_hand(self):
        five = ("number", 5)
        end = (("end", five),)
        three = (("number", 3),)
        self.assertEqual(uses_following((("enter", three),), five), (("call", three, ((("call", (), (end,)),),)),))
        self.assertEqual(uses_following((), five), ())
        self.assertEqual(uses_following((("number", 3), ("number", 4)), five), (("number", 3), ("number", 4)))
        self.assertEqual(uses_following((("call", three, (three, ())),), five), (
            ("call", three, ((("call", (("call", three, (end,)), ("call", (), (end,))), (end,)),),)),))
        self.assertEqual(uses_following((("open", (("end", ("kept",)),), three),), ("kept",)), (
            ("open", (("end", ("function",)),), three),))
        self.assertEqual(uses_following(told=("pair",), uses=(("end", ("pair",)), ("end", ("kept",)))), (
            ("end", ("pair",)), ("end", ("function",))))
        self.assertEqual(calls_following((), five), ())
        self.assertEqual(calls_following((three, ()), five), (("call", three, (end,)), ("call", (), (end,))))
        self.assertEqual(calls_following(told=("kept",), returns=((),)), (("call", (), ((("end", ("function",)),),)),))

    def test_second_reading(self):
        met = set()
        for program, value in BILLED[:60]:
            for path in paths(program)[:12]:
                for returns, needs, _ in instances(program, path):
                    for told in ENDS:
                        self.assertEqual(calls_following(returns, told), plain_calls(returns, told))
                        for uses in needs.values():
                            met.update(use[0] for use in uses)
                            self.assertEqual(uses_following(uses, told), plain_uses(uses, told))
        self.assertEqual(met, {"number", "end", "open", "call", "enter"})

    def test_deep_uses(self):
        uses = ()
        for at in range(140):
            uses = (("enter", uses),) if at % 2 else (("call", uses, (uses[:0],)),)
        self.assertEqual(repr(uses_following(uses, FIVE)), repr(plain_uses(uses, FIVE)))

    def test_no_uses(self):
        wrong = [None, 1, "number", [], [("number", 1)], (1,), (("number",),), (("number", True),), (("enter",),), (("enter", 1),),
                 (("call", ()),), (("call", (), 1),), (("call", (), (1,)),), (("open", ()),), (("end", ("stuck",)),), (("end", None),),
                 (("kept", ()),), {}, (("number", 1), None)]
        for value in wrong:
            self.assertRaises(BadUses, uses_following, value, ("stuck",))
            self.assertRaises(BadReturns, calls_following, (value,), ("stuck",))
        for value in [None, 1, "x", [], [()], {}, (1,), (None,), ((1,),)]:
            self.assertRaises(BadReturns, calls_following, value, ("stuck",))

    def test_no_good_ends(self):
        for told in NO_ENDS:
            if told in (("number", 10 ** 30), ("number", -10 ** 30)):
                continue
            self.assertRaises(BadTold, uses_following, (), told)
            self.assertRaises(BadTold, calls_following, (), told)


class BillTest(unittest.TestCase):
    def test_by_hand(self):
        end = (("end", FIVE),)
        self.assertEqual(bill_following(FIVE, (FIVE, ("number",))), (FIVE, ("call", (
            "fun", (("call", ("name",), ((("number",), (("called", end, 1),)),)),)), (
                (("fun", (("name",),)), (("called", (("call", end, (end,)),), 1),)),))))

    def test_the_bill_of_the_translation(self):
        compared = 0
        for program, value in BILLED:
            found = bill_following(program, value)
            self.assertTrue(is_tree(found[1]))
            try:
                made = following(program)
            except TooMany:
                made = None
            if made is not None:
                self.assertTrue(is_bill(made, found))
                self.assertTrue(is_single(made, found))
            runner = run_of_translation(program)
            self.assertEqual(found, (runner.ended, Ledger(runner).trees[0].value))
            compared += made is None
        self.assertGreater(compared, 4)

    def test_the_counts_of_the_translation(self):
        for program, value in BILLED:
            found = steps_following(program, value)
            runner = run_of_translation(program)
            self.assertEqual(found, {kind: runner.kinds.count(kind) for kind in KINDS})
            self.assertEqual(list(found), KINDS)
            self.assertEqual(lines(bill_following(program, value)[1]), found)
            self.assertEqual((found["keep"], found["enter"], found["let"]), (0, 0, 0))
        self.assertEqual(steps_following(bill=(FIVE, ("number",)), program=FIVE)["hold"], 3)

    def test_followers(self):
        for program, value in BILLED[::2]:
            found = followers(program, value)
            self.assertEqual(found, sorted(found))
            firsts = {"let": [2], "open": [1], "choose": [1], "show": [1], "call": [1, 2], "work": [2, 3], "pair": [1, 2]}
            wanted = []
            waiting = [(program, ())]
            while waiting:
                part, path = waiting.pop()
                for at, inner in enumerate(part):
                    if isinstance(inner, tuple):
                        waiting.append((inner, (*path, at)))
                for at in firsts.get(part[0], []):
                    wanted += [((*path, at), many(tree)) for _, _, tree in instances(program, (*path, at))]
            self.assertEqual(found, sorted(wanted))
            self.assertEqual(is_single(program, value), all(times <= 1 for _, times in found))

    def test_by_hand_followers(self):
        self.assertEqual(followers(TWICE, bill(TWICE))[0], ((1,), 2))
        self.assertIs(is_single(TWICE, bill(TWICE)), False)
        self.assertEqual(followers(ENTERED, bill(ENTERED)), [((2, 1), 1), ((2, 2), 1)])
        self.assertIs(is_single(bill=bill(ENTERED), program=ENTERED), True)
        self.assertEqual(followers(FIVE, bill(FIVE)), [])
        # A part that never returns: no bill of it returns more than once, either.
        program = ("keep", "k", ("let", "a", call(name("k"), number(1)), number(2)))
        self.assertEqual(followers(program, bill(program)), [((2, 2), 0), ((2, 2, 1), 1), ((2, 2, 2), 1)])
        self.assertIs(is_single(program, bill(program)), True)
        # The keep returns twice, and stands in the first part of a let.
        program = ("let", "x", TWICE[1], ("open", name("x"), "v", "p", ("choose", name("v"), call(name("p"), (
            "pair", number(0), number(0))), number(1))))
        self.assertEqual(followers(program, bill(program))[0], ((2,), 2))
        self.assertIs(is_single(program, bill(program)), False)

    def test_programs_without_keep_are_single(self):
        for program, value in BILLED:
            if "'keep'" not in repr(program):
                self.assertIs(is_single(program, value), True)

    def test_the_translation_of_a_translation(self):
        twice = 0
        for program, value in BILLED[::2]:
            try:
                once = following(program)
            except TooMany:
                continue
            found = bill_following(program, value)
            again = bill_following(once, found)
            runner = run_of_translation(once)
            self.assertEqual(steps_following(once, found), {kind: runner.kinds.count(kind) for kind in KINDS})
            if sum(steps_following(once, found).values()) < 2000:
                self.assertEqual(again, (runner.ended, Ledger(runner).trees[0].value))
                twice += 1
            try:
                self.assertEqual(back(back(following(once))), program)
            except TooMany:
                pass
        self.assertGreater(twice, 60)


class RefusedTest(unittest.TestCase):
    TOLD = (steps_following, bill_following, followers, is_single)

    def test_refused(self):
        for told in self.TOLD:
            for value in ODD:
                self.assertRaises(BadProgram, told, value, None)
                self.assertRaises(BadBill, told, ENTERED, value)
            for program in (STUCK, ENDLESS):
                self.assertRaises(BadBill, told, program, bill(FIVE))
                self.assertRaises(BadBill, told, program, None)
            self.assertRaises(BadBill, told, TWICE, bill(ENTERED))
            self.assertRaises(BadBill, told, ENTERED, bill(TWICE))
            self.assertRaises(BadBill, told, number(6), bill(FIVE))
            self.assertRaises(BadBill, told, ENTERED, bill(ENTERED)[1])

    def test_near_bills(self):
        for program in (ENTERED, ("show", FIVE), call(IDENTITY, FIVE)):
            value = bill(program)
            for other in variants(value):
                if not is_bill(program, other):
                    for told in self.TOLD:
                        self.assertRaises(BadBill, told, program, other)

    def test_what_is_told_is_new(self):
        value = bill(TWICE)
        for told in (steps_following, followers):
            before = told(TWICE, value)
            told(TWICE, value).clear()
            self.assertEqual(told(TWICE, value), before)

    def test_bills_of_more_than_400_lines(self):
        program = counted_down(90, number(1))
        self.assertRaises(TooMany, bill, program)
        runner = Runner(program, Trail())
        while runner.step():
            pass
        value = (runner.ended, Ledger(runner).trees[0].value)
        self.assertEqual(steps_following(program, value), lines(bill_following(program, value)[1]))
        self.assertIs(is_single(program, value), True)


if __name__ == "__main__":
    unittest.main()
