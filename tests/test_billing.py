"""Promise 28: the bill of a program."""

import unittest

from returnsdue.billing import bill
from returnsdue.errors import BadProgram, TooMany
from returnsdue.judging import is_bill, lines
from returnsdue.running import run
from returnsdue.terms import alike, is_program, renamed
from tests.programs import (
    BY_HAND, ENDLESS, ENTERED, IDENTITY, STUCK, TWICE, call, counted_down, loop, name, number, of_steps, of_tuples,
    random_programs, summed, tuples_in,
)
from tests.reference import is_bill_of
from tests.values import ODD

LOOK = ("name",)
HOLD = ("number",)


class BillTest(unittest.TestCase):
    def test_example(self):
        end = ("end", number(5))
        wanted = (number(5), ("keep", 1, ("call", LOOK, ((HOLD, (("entered", (end,)),)),))))
        self.assertEqual(bill(ENTERED), wanted)

    def test_bills_by_hand(self):
        end = ("end", ("function",))
        self.assertEqual(bill(number(5)), (number(5), HOLD))
        self.assertEqual(bill(IDENTITY), (("function",), ("fun", (None,))))
        self.assertEqual(bill(("keep", "k", name("k"))), (("kept",), ("keep", 0, LOOK)))
        self.assertEqual(bill(("pair", number(1), IDENTITY)), (("pair",), ("pair", HOLD, (("fun", ()),))))
        self.assertEqual(bill(("show", number(4))), (number(4), ("show", HOLD, (4,))))
        self.assertEqual(bill(("work", "times", number(4), number(3))), (number(12), ("work", HOLD, ((HOLD, ((4, 3),)),))))
        self.assertEqual(bill(("choose", number(0), number(4), number(3))), (number(3), ("choose", HOLD, ((0, HOLD),))))
        self.assertEqual(bill(("let", "x", number(1), name("x"))), (number(1), ("let", HOLD, (LOOK,))))
        self.assertEqual(bill(call(IDENTITY, IDENTITY)),
                         (("function",), ("call", ("fun", (LOOK,)), ((("fun", (None,)), (("called", (end,), 1),)),))))
        self.assertEqual(bill(("open", ("pair", number(1), number(2)), "a", "b", name("b"))),
                         (number(2), ("open", ("pair", HOLD, (HOLD,)), (LOOK,))))
        self.assertEqual(bill(("def", "y", "x", name("x"), call(name("y"), number(2)))),
                         (number(2), ("def", (LOOK,), ("call", LOOK, ((HOLD, (("called", (("end", number(2)),), 1),)),)))))

    def test_a_keep_returns_twice(self):
        told, tree = bill(TWICE)
        self.assertEqual(told, number(8))
        self.assertEqual(tree[1], ("keep", 1, ("pair", HOLD, (LOOK,))))
        self.assertEqual(len(tree[2]), 2)

    def test_bills_of_runs(self):
        programs = BY_HAND + random_programs(28, 150, is_program) + [loop(6, number(1)), counted_down(50, number(1)),
                                                                      summed(20), of_steps(400)]
        for program in programs:
            shown, end, counts = run(program, 400)
            if end == ("more",):
                self.assertRaises(TooMany, bill, program)
                continue
            found = bill(program)
            if end == ("stuck",):
                self.assertIsNone(found)
                continue
            self.assertEqual((found[0], lines(found[1])), (end, counts))
            self.assertIs(is_bill(program, found), True)
            self.assertIs(is_bill_of(program, found), True)

    def test_400_steps_and_401(self):
        self.assertEqual(lines(bill(of_steps(400))[1]), run(of_steps(400), 1000)[2])
        for program in (of_steps(401), ENDLESS):
            with self.assertRaises(TooMany) as caught:
                bill(program)
            self.assertEqual(caught.exception.most, 400)

    def test_stuck_programs(self):
        self.assertIsNone(bill(STUCK))
        for last, steps in ((("work", "plus", number(1), IDENTITY), 400),
                            (("let", "a", number(1), ("show", IDENTITY)), 401)):
            program = counted_down(56, last)
            _, end, counts = run(program, 1000)
            self.assertEqual((end, sum(counts.values())), (("stuck",), steps))
            if steps == 400:
                self.assertIsNone(bill(program))
            else:
                self.assertRaises(TooMany, bill, program)

    def test_20000_tuples_and_more(self):
        self.assertEqual(tuples_in(bill(of_tuples(20000, bill))), 20000)
        for many in (20001, 20002, 30000):
            with self.assertRaises(TooMany) as caught:
                bill(of_tuples(many, bill))
            self.assertEqual(caught.exception.most, 20000)

    def test_bills_that_no_machine_could_hold(self):
        e = IDENTITY
        for _ in range(50):
            e = call(e, IDENTITY)
        self.assertRaises(TooMany, bill, call(e, number(0)))

    def test_alike_programs_have_the_same_bill(self):
        for program in BY_HAND:
            if program[0] in ("fun", "let", "keep"):
                other = renamed(program, (), program[1], "qqq")
                self.assertIs(alike(program, other), True)
                self.assertEqual(bill(other), bill(program))

    def test_refused(self):
        for value in ODD:
            self.assertRaises(BadProgram, bill, value)
        self.assertRaises(BadProgram, bill, name("x"))
        self.assertEqual(bill(program=number(1)), (number(1), HOLD))


if __name__ == "__main__":
    unittest.main()
