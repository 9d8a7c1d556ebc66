"""Promises 31, 32 and 33: tallies, what is due, copying, and what a bill tells of them."""

import unittest

from returnsdue.ahead import copying, least_held, returns_due, tallies, told_ahead, uses_due
from returnsdue.billing import bill
from returnsdue.errors import BadMoment, BadProgram, NoBill, TooMany
from returnsdue.running import run, state
from returnsdue.terms import is_program
from tests.programs import (
    BY_HAND, ENDLESS, ENTERED, IDENTITY, STUCK, TWICE, call, loop, name, number, of_steps, random_programs,
)
from tests.reference import Reference
from tests.test_judging import billed
from tests.values import NO_WHOLES, ODD


class ExampleTest(unittest.TestCase):
    def test_tallies(self):
        frames, things = tallies(TWICE)
        self.assertEqual(frames[0], ((), "open", 2))
        self.assertEqual([many for _, _, many in frames[1:]], [1] * 12)
        self.assertEqual(sorted(things), sorted((((1,), 1), ((1, 2), 1), ((4, 2, 2), 1))))
        self.assertEqual(things, (((1,), 1), ((1, 2), 1), ((4, 2, 2), 1)))

    def test_returns_due(self):
        due = [returns_due(TWICE, moment)[0] for moment in range(21)]
        self.assertEqual(due, [2] * 5 + [1] * 10 + [0] * 6)
        self.assertEqual(copying(TWICE), ((5, 0),))

    def test_by_hand(self):
        self.assertEqual(tallies(number(5)), ((), ()))
        self.assertEqual(tallies(IDENTITY), ((), (((), 0),)))
        self.assertEqual(tallies(ENTERED), ((((2,), "call1", 1), ((2,), "call2", 1)), (((), 1),)))
        kept = ("show", ("keep", "k", ("show", call(name("k"), number(1)))))
        frames = (((), "show", 1), ((1, 2), "show", 0), ((1, 2, 1), "call1", 1), ((1, 2, 1), "call2", 1))
        self.assertEqual(tallies(kept), (frames, (((1,), 1),)))
        self.assertEqual(returns_due(kept, 0), {0: 1})
        self.assertEqual(returns_due(kept, 1), {0: 1, 1: 0, 2: 1})
        self.assertEqual(returns_due(kept, 2), {0: 1, 1: 0, 2: 0, 3: 1})
        self.assertEqual(returns_due(kept, 4), {0: 1, 1: 0, 2: 0, 3: 0})
        self.assertEqual(returns_due(kept, 5), {0: 0, 1: 0, 2: 0, 3: 0})
        self.assertEqual([uses_due(kept, moment) for moment in range(6)], [{}, {0: 1}, {0: 1}, {0: 1}, {0: 0}, {0: 0}])
        self.assertEqual(least_held(kept), ((1, 0), (2, 1), (2, 1), (2, 1), (1, 0), (0, 0)))
        self.assertEqual(copying(kept), ())

    def test_a_frame_with_many_returns(self):
        program = loop(3, name("v"))
        frames, things = tallies(program)
        self.assertEqual((frames[0], things[0]), (((), "open", 4), ((1,), 3)))
        self.assertEqual([birth for _, birth in copying(program)], [0, 0, 0])

    def test_a_frame_that_takes_at_once(self):
        # A call1 takes its worth behind the step that looks it up, so that step is told.
        program = ("let", "p", ("keep", "k", ("pair", name("k"), number(1))), (
            "open", name("p"), "a", "b", ("choose", name("b"), call(name("a"), ("pair", name("a"), number(0))), number(3))))
        self.assertEqual(copying(program), ((5, 0),))
        twice = ("work", "plus", ("keep", "k", ("let", "f", ("fun", "x", call(name("k"), name("x"))), number(1))), number(2))
        self.assertEqual(copying(twice), ())
        program = ("open", call(("keep", "k", ("fun", "x", ("pair", name("x"), name("k")))), number(1)), "n", "p", (
            "choose", name("n"), call(name("p"), ("fun", "x", ("pair", number(0), number(0)))), number(3)))
        reference = Reference(program, 400)
        self.assertEqual(tallies(program)[0][:2], (((), "open", 2), ((1,), "call1", 2)))
        self.assertEqual(copying(program)[0], (2, 1))
        self.assertEqual(reference.kinds[:2], ["keep", "hold"])


class PropertiesTest(unittest.TestCase):
    def test_told_ahead_is_what_tallies_tell(self):
        for program, value in billed(BY_HAND + random_programs(33, 200, is_program) + [loop(9, number(1)), of_steps(400)]):
            frames, things = tallies(program)
            self.assertEqual(told_ahead(program, value), (sorted(frames), sorted(things)))

    def test_a_second_reading(self):
        for program, _ in billed(BY_HAND + random_programs(31, 60, is_program)):
            reference = Reference(program, 400)
            frames, things = tallies(program)
            self.assertEqual([(path, kind) for path, kind, _ in frames],
                             [(row[1], row[0]) for row in reference.frames.values()])
            self.assertEqual([many for _, _, many in frames], self.totals(reference.returns, frames))
            self.assertEqual([many for _, many in things], self.totals(reference.uses, things))
            self.check_moments(program, reference, len(frames))

    def totals(self, events, rows):
        return [len([1 for _, birth in events if birth == at]) for at in range(len(rows))]

    def check_moments(self, program, reference, many):
        held = least_held(program)
        self.assertEqual(len(held), len(reference.kinds) + 1)
        for moment in range(0, len(held), 3):
            returns, uses = returns_due(program, moment), uses_due(program, moment)
            self.assertEqual(list(returns), list(range(len(returns))))
            self.assertEqual(list(uses), list(range(len(uses))))
            for birth, due in returns.items():
                self.assertEqual(due, len([1 for at, other in reference.returns if other == birth and at > moment]))
            for birth, due in uses.items():
                self.assertEqual(due, len([1 for at, other in reference.uses if other == birth and at > moment]))
            _, _, frames, things, _ = state(program, moment)
            self.assertLessEqual(max([*frames, -1]), len(returns) - 1)
            self.assertLessEqual(max([*things, -1]), len(uses) - 1)
            self.assertEqual(held[moment], (sum(1 for due in returns.values() if due),
                                            sum(1 for due in uses.values() if due)))
            self.assertTrue({birth for birth, due in returns.items() if due} <= set(frames))
            self.assertTrue({birth for birth, due in uses.items() if due} <= set(things))
        self.assertEqual(len(returns_due(program, len(held) - 1)), many)
        last = {birth: at for at, (_, birth) in enumerate(reference.returns)}
        wanted = [event for at, event in enumerate(reference.returns) if last[event[1]] != at]
        self.assertEqual(copying(program), tuple(wanted))


class RefusedTest(unittest.TestCase):
    def test_programs(self):
        for value in [*ODD, name("x")]:
            for asked in (tallies, least_held, copying):
                self.assertRaises(BadProgram, asked, value)
            for asked in (returns_due, uses_due, told_ahead):
                self.assertRaises(BadProgram, asked, value, -1)

    def test_moments(self):
        for program in (TWICE, STUCK, ENDLESS):
            for moment in [*NO_WHOLES, -1, 401, 10 ** 20]:
                self.assertRaises(BadMoment, returns_due, program, moment)
                self.assertRaises(BadMoment, uses_due, program, moment)
        for asked in (returns_due, uses_due):
            self.assertEqual(len(asked(number(1), 1)), 0)
            self.assertRaises(BadMoment, asked, number(1), 2)
            self.assertRaises(BadMoment, asked, TWICE, 21)
            self.assertTrue(asked(of_steps(400), 400))
            self.assertRaises(BadMoment, asked, of_steps(399), 400)
            for moment in (0, 400):
                self.assertRaises(NoBill, asked, STUCK, moment)
                self.assertRaises(TooMany, asked, of_steps(401), moment)

    def test_no_bill_and_too_many(self):
        for asked in (tallies, least_held, copying):
            self.assertRaises(NoBill, asked, STUCK)
            for program in (ENDLESS, of_steps(401)):
                with self.assertRaises(TooMany) as caught:
                    asked(program)
                self.assertEqual(caught.exception.most, 400)
            asked(of_steps(400))
        self.assertEqual(len(least_held(of_steps(400))), 401)

    def test_told_ahead(self):
        for value in [*ODD, bill(TWICE)[1], list(bill(TWICE)), bill(ENTERED)]:
            self.assertRaises(NoBill, told_ahead, TWICE, value)
            self.assertRaises(NoBill, told_ahead, ENDLESS, value)
            self.assertRaises(NoBill, told_ahead, STUCK, value)

    def test_by_name(self):
        self.assertEqual(tallies(program=number(1)), ((), ()))
        self.assertEqual(returns_due(moment=0, program=number(1)), {})
        self.assertEqual(uses_due(moment=0, program=number(1)), {})
        self.assertEqual(least_held(program=number(1)), ((0, 0), (0, 0)))
        self.assertEqual(copying(program=number(1)), ())
        self.assertEqual(told_ahead(value=bill(number(1)), program=number(1)), ([], []))

    def test_the_end_is_that_of_the_run(self):
        self.assertEqual(len(least_held(TWICE)), sum(run(TWICE, 400)[2].values()) + 1)


if __name__ == "__main__":
    unittest.main()
