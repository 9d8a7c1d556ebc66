"""Promises 35 and 36: runs in which frames and things are let go, or frames can take only so many worths."""

import random
import unittest

from returnsdue.ahead import copying, least_held, returns_due, tallies, uses_due
from returnsdue.errors import BadDues, BadGifts, BadMost, BadProgram
from returnsdue.letting import run_letting_go, run_with_dues
from returnsdue.running import run, state, steps
from returnsdue.terms import is_program
from tests.programs import (
    BY_HAND, ENDLESS, ENTERED, IDENTITY, STUCK, TWICE, call, chained, counted_down, loop, name, number, random_programs,
    returning_programs, summed)
from tests.reference import Reference
from tests.test_followbills import billed
from tests.test_idle import NO_GONE
from tests.values import NO_WHOLES, ODD

NO_DUES = [None, 1, "1", "", {}, {0: 1}, [None], [-1], [True], [1, False], ["1"], [[1]], [1, (1,)], (1, -1), {1}]
COUNTS = dict.fromkeys(["call", "choose", "def", "enter", "hold", "keep", "let", "look", "open", "show", "work"], 0)


class Missed(Exception):
    pass


class Losing(Reference):
    """A run as the document tells it, with frames and things that are let go, and with dues."""

    def __init__(self, program, most, gifts=(), dues=None):
        self.program = program
        self.frames, self.things = {}, {}
        self.shown, self.top, self.kinds = (), None, []
        self.returns, self.uses, self.states = [], [], []
        self.next = ("eval", (), {})
        self.gifts = gifts
        self.away = set()
        self.left = None if dues is None else dict(enumerate(dues))
        self.end = ("more",)
        self.settle()
        self.let_go()
        while self.next[0] != "end":
            before = (self.shown, list(self.kinds))
            try:
                self.step()
                self.settle()
            except Missed as missed:
                self.shown, self.kinds = before
                self.end = ("gone", *missed.args)
                return
            if len(self.kinds) > most:
                self.shown, self.kinds = before
                return
            self.let_go()
        self.end = self.next[1]

    def state(self):
        """States are told by other tests."""

    def let_go(self):
        for moment, word, birth in self.gifts:
            if moment == len(self.kinds) and birth in (self.frames if word == "frame" else self.things):
                self.away.add((word, birth))

    def pop(self):
        if ("frame", self.top) in self.away:
            raise Missed("frame", self.top)
        if self.left is not None:
            if not self.left.get(self.top):
                raise Missed("frame", self.top)
            self.left[self.top] -= 1
        return Reference.pop(self)

    def use(self, worth):
        if worth in self.away:
            raise Missed(*worth)

    def told(self):
        return (self.shown, self.end, {kind: self.kinds.count(kind) for kind in COUNTS})


PROGRAMS = BY_HAND + [STUCK, ENDLESS, chained(30), summed(12)] + random_programs(35, 120, is_program) + returning_programs(35, 40, is_program)
BILLED = [program for program, _ in billed(PROGRAMS)]


class LettingGoTest(unittest.TestCase):
    def test_by_hand(self):
        self.assertEqual(run_letting_go(TWICE, [], 400), run(TWICE, 400))
        self.assertEqual(run_letting_go(TWICE, [(15, "frame", 0)], 400), run(TWICE, 400))
        # The first return to frame 0 is at step 5, the second one at step 15; the place is entered at step 14.
        for gift, most, end, many in [
                ((0, "frame", 0), 400, ("gone", "frame", 0), 4), ((4, "frame", 0), 4, ("gone", "frame", 0), 4),
                ((4, "frame", 0), 3, ("more",), 3), ((5, "frame", 0), 400, ("gone", "frame", 0), 14),
                ((5, "frame", 0), 14, ("gone", "frame", 0), 14), ((5, "frame", 0), 13, ("more",), 13), ((5, "frame", 0), 0, ("more",), 0),
                ((1, "thing", 0), 400, ("gone", "thing", 0), 13), ((13, "thing", 0), 13, ("gone", "thing", 0), 13),
                ((13, "thing", 0), 12, ("more",), 12), ((0, "thing", 0), 400, number(8), 20), ((14, "thing", 0), 400, number(8), 20),
                ((0, "frame", 1), 400, number(8), 20), ((21, "frame", 0), 400, number(8), 20)]:
            with self.subTest(gift=gift, most=most):
                shown, found, counts = run_letting_go(TWICE, [gift], most)
                self.assertEqual((shown, found, sum(counts.values())), ((), end, many))
        self.assertEqual(run_letting_go(most=400, gifts=((5, "frame", 0),), program=TWICE)[1], ("gone", "frame", 0))

    def test_the_step_ahead_of_a_frame_that_takes_at_once_is_not_done(self):
        # The worth of the look is taken by the frame of the work at once.
        program = ("let", "x", number(1), ("work", "plus", name("x"), ("show", number(2))))
        self.assertEqual(steps(program, 99), ("hold", "let", "look", "hold", "show", "work"))
        self.assertEqual(state(program, 2)[1], 1)
        _, end, counts = run_letting_go(program, [(2, "frame", 1)], 99)
        self.assertEqual((end, sum(counts.values()), counts["look"]), (("gone", "frame", 1), 2, 0))
        self.assertEqual(run_letting_go(program, [(2, "frame", 1)], 2)[1], ("gone", "frame", 1))
        # What is shown in a step that is not done is not shown.
        program = ("pair", ("show", number(7)), number(1))
        shown, end, counts = run_letting_go(program, [(0, "frame", 0)], 99)
        self.assertEqual((shown, end, counts["show"], counts["hold"]), ((), ("gone", "frame", 0), 0, 1))

    def test_the_frame_first(self):
        # At step 3 the frame 1, a call2, takes a worth, and the thing 0 is called.
        program = call(IDENTITY, number(5))
        both = [(2, "thing", 0), (2, "frame", 1)]
        self.assertEqual(run_letting_go(program, both, 99)[1], ("gone", "frame", 1))
        self.assertEqual(run_letting_go(program, both[::-1], 99)[1], ("gone", "frame", 1))
        self.assertEqual(run_letting_go(program, both[:1], 99)[1], ("gone", "thing", 0))
        self.assertEqual(run_letting_go(program, both, 2)[1], ("gone", "frame", 1))
        self.assertEqual(run_letting_go(program, both, 1)[1], ("more",))
        program = ("open", ("pair", number(1), number(2)), "x", "y", name("x"))
        self.assertEqual(run_letting_go(program, [(3, "thing", 0), (3, "frame", 0)], 99)[1], ("gone", "frame", 0))
        self.assertEqual(run_letting_go(program, [(3, "thing", 0)], 99)[1], ("gone", "thing", 0))

    def test_an_entry_behind_which_a_worth_is_taken_at_once(self):
        # At step 4 a call2 takes a worth, the place is entered, and the frame of the pair takes the worth at once.
        program = ("pair", ("keep", "k", call(name("k"), number(1))), number(2))
        self.assertEqual(steps(program, 99), ("keep", "look", "hold", "enter", "hold", "hold"))
        gifts = [(3, "frame", 0), (3, "thing", 0), (3, "frame", 2)]
        for some, end in ((gifts, ("gone", "frame", 2)), (gifts[:2], ("gone", "thing", 0)), (gifts[:1], ("gone", "frame", 0)),
                          (gifts[1:2], ("gone", "thing", 0)), (gifts[::2], ("gone", "frame", 2))):
            for turned in (some, some[::-1]):
                shown, found, counts = run_letting_go(program, turned, 3)
                self.assertEqual((found, sum(counts.values())), (end, 3))
        self.assertEqual(run_letting_go(program, gifts, 2)[1], ("more",))

    def test_the_earliest_moment_counts(self):
        gifts = [(14, "thing", 0), (0, "thing", 0), (3, "thing", 0)]
        for some in (gifts, gifts[::-1], gifts + gifts):
            self.assertEqual(run_letting_go(TWICE, some, 400)[1], ("gone", "thing", 0))
        self.assertEqual(run_letting_go(TWICE, [(14, "thing", 0), (0, "thing", 0)], 400), run(TWICE, 400))

    def test_stuck_and_endless_runs(self):
        self.assertEqual(run_letting_go(STUCK, [(2, "frame", 1)], 400), run(STUCK, 400))
        self.assertEqual(run_letting_go(STUCK, [(0, "frame", 0)], 400)[1], ("gone", "frame", 0))
        self.assertEqual(run_letting_go(ENDLESS, [(0, "thing", 0)], 400)[1], ("more",))
        _, end, counts = run_letting_go(ENDLESS, [(99, "thing", 0)], 100000)
        self.assertEqual((end, sum(counts.values())), (("gone", "thing", 0), 99))
        self.assertEqual(run_letting_go(ENDLESS, [(10 ** 29, "thing", 0)], 100000)[1], ("more",))

    def test_second_reading(self):
        r = random.Random(35)
        ends = {}
        for program in PROGRAMS:
            last = len(steps(program, 60))
            plain = Losing(program, 60)
            events = [("frame", birth) for birth in plain.frames] + [("thing", birth) for birth in plain.things] + [("thing", 99)]
            for _ in range(12):
                gifts = [(r.randint(0, last + 1), *r.choice(events)) for _ in range(r.choice([1, 1, 2, 4, 9]))]
                most = r.choice([60, 60, last, max(last - 1, 0), r.randint(0, last)])
                found = run_letting_go(program, gifts, most)
                self.assertEqual(found, Losing(program, most, gifts).told())
                ends[found[1][:2]] = ends.get(found[1][:2], 0) + 1
        self.assertTrue(ends[("gone", "frame")] > 100 and ends[("gone", "thing")] > 40, ends)

    def test_the_same_exactly_if_nothing_is_due(self):
        r = random.Random(350)
        for program in BILLED:
            whole = run(program, 400)
            last = sum(whole[2].values())
            for moment in sorted({0, last, *[r.randint(0, last) for _ in range(6)]}):
                due = [(moment, "frame", birth, many) for birth, many in returns_due(program, moment).items()]
                due += [(moment, "thing", birth, many) for birth, many in uses_due(program, moment).items()]
                self.assertEqual(run_letting_go(program, [row[:3] for row in due if not row[3]], 400), whole)
                for row in due:
                    found = run_letting_go(program, [row[:3]], 400)
                    self.assertEqual(found == whole, not row[3])
                    self.assertEqual(found[1] == ("gone", *row[1:3]), bool(row[3]))

    def test_all_that_has_nothing_due_at_every_moment(self):
        for program in BILLED[::2]:
            gifts = []
            for moment in range(len(least_held(program))):
                gifts += [(moment, "frame", birth) for birth, many in returns_due(program, moment).items() if not many]
                gifts += [(moment, "thing", birth) for birth, many in uses_due(program, moment).items() if not many]
            self.assertEqual(run_letting_go(program, gifts, 400), run(program, 400))


class WithDuesTest(unittest.TestCase):
    def test_by_hand(self):
        just = [n for _, _, n in tallies(TWICE)[0]]
        self.assertEqual(run_with_dues(TWICE, just, 400), run(TWICE, 400))
        self.assertEqual(run_with_dues(TWICE, [9] * 99, 400), run(TWICE, 400))
        self.assertEqual(run_with_dues(TWICE, (), 400)[1], ("gone", "frame", 1))
        for most, end, many in ((400, ("gone", "frame", 0), 14), (14, ("gone", "frame", 0), 14), (13, ("more",), 13), (0, ("more",), 0)):
            _, found, counts = run_with_dues(TWICE, [1, *just[1:]], most)
            self.assertEqual((found, sum(counts.values())), (end, many))
        self.assertEqual(run_with_dues(most=400, dues=[0], program=TWICE)[1], ("gone", "frame", 1))
        self.assertEqual(run_with_dues(number(5), [], 400), run(number(5), 400))

    def test_just_the_returns_are_needed(self):
        for program in BILLED:
            whole = run(program, 400)
            just = [n for _, _, n in tallies(program)[0]]
            self.assertEqual(run_with_dues(program, just, 400), whole)
            self.assertEqual(run_with_dues(program, [n + 1 for n in just] + [0], 400), whole)
            self.assertEqual(sum(n - 1 for n in just if n), len(copying(program)))
            for birth, many in enumerate(just):
                if many:
                    fewer = [*just[:birth], many - 1, *just[birth + 1:]]
                    self.assertEqual(run_with_dues(program, fewer, 400)[1], ("gone", "frame", birth))
                if many and birth == len(just) - 1:
                    self.assertEqual(run_with_dues(program, just[:birth], 400)[1], ("gone", "frame", birth))
                    self.assertEqual(run_with_dues(program, just[:birth] + [many], 400), whole)

    def test_second_reading(self):
        r = random.Random(36)
        gone = 0
        for program in PROGRAMS:
            last = len(steps(program, 60))
            for _ in range(5):
                dues = [r.choice([0, 1, 1, 1, 1, 2, 5]) for _ in range(r.randint(0, 30))]
                most = r.choice([60, last, max(last - 1, 0), r.randint(0, last)])
                found = run_with_dues(program, dues, most)
                self.assertEqual(found, Losing(program, most, dues=dues).told())
                gone += found[1][0] == "gone"
        self.assertGreater(gone, 200)

    def test_stuck_and_endless_runs(self):
        self.assertEqual(run_with_dues(STUCK, [1], 400), run(STUCK, 400))
        self.assertEqual(run_with_dues(STUCK, [], 400)[1], ("gone", "frame", 0))
        self.assertEqual(run_with_dues(ENDLESS, [1] * 2000, 400), run(ENDLESS, 400))
        _, end, counts = run_with_dues(ENDLESS, [1] * 2000, 100000)
        self.assertEqual((end, sum(counts.values())), (("gone", "frame", 2000), 1 + 3 * 1000))
        self.assertEqual(run_with_dues(loop(30, name("v")), [10 ** 29] * 2000, 100000), run(loop(30, name("v")), 100000))
        self.assertEqual(run_with_dues(counted_down(9, number(1)), [1] * 99, 400), run(counted_down(9, number(1)), 400))


class RefusedTest(unittest.TestCase):
    def test_programs(self):
        for value in [*ODD, name("x")]:
            self.assertRaises(BadProgram, run_letting_go, value, None, -1)
            self.assertRaises(BadProgram, run_with_dues, value, None, -1)

    def test_gifts(self):
        for gifts in NO_GONE[:-1]:
            self.assertRaises(BadGifts, run_letting_go, ENTERED, gifts, -1)
        for gifts in ([(0, "frame", 0)] * 2000, (), [(10 ** 29, "thing", 10 ** 29)]):
            self.assertTrue(run_letting_go(ENTERED, gifts, 9))

    def test_dues(self):
        for dues in NO_DUES:
            self.assertRaises(BadDues, run_with_dues, ENTERED, dues, -1)

    def test_most(self):
        for most in [*NO_WHOLES, -1, 100001]:
            self.assertRaises(BadMost, run_letting_go, ENTERED, [], most)
            self.assertRaises(BadMost, run_with_dues, ENTERED, [], most)

    def test_nothing_passed_is_changed(self):
        gifts = [(5, "frame", 0), (3, "thing", 0)]
        dues = [2, 1, 1]
        run_letting_go(TWICE, gifts, 400)
        run_with_dues(TWICE, dues, 400)
        self.assertEqual((gifts, dues), ([(5, "frame", 0), (3, "thing", 0)], [2, 1, 1]))


if __name__ == "__main__":
    unittest.main()
