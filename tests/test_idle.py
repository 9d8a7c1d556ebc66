"""Promises 66 to 68: what is due in a run of code, what is held for nothing, and what can be taken away."""

import random
import unittest

from returnsdue.ahead import uses_due
from returnsdue.billing import bill
from returnsdue.codemachine import code_steps, returned, run_code
from returnsdue.compiler import compiled
from returnsdue.errors import BadCode, BadGone, BadMoment, BadMost, Misfit, NotOver, TooMany
from returnsdue.idle import due, idle, least_store, run_without
from returnsdue.store import reach, store
from tests.codereference import CodeReference
from tests.codes_made import CODES_OF_NONE, CODES_OF_PROGRAMS, PROGRAMS, random_codes
from tests.programs import ENDLESS, ENTERED, IDENTITY, STUCK, TWICE, call, counted_down, loop, name, number, of_steps, summed
from tests.values import NO_WHOLES, ODD

ONE, TWO = number(1), number(2)
MISFIT = ((0, 1, (("slot", 0), ("return",))),)
NO_CODE = ((0, 1, (("slot", 1), ("return",))),)
NO_GONE = [None, 1, "gone", {}, {0: 1}, [None], [()], [(1, "frame")], [(1, "frame", 0, 0)], [[1, "frame", 0]], [(-1, "frame", 0)],
           [(0, "frame", -1)], [(True, "frame", 0)], [(0, "frame", True)], [(0, "thing", False)], [(None, "thing", 0)],
           [(0, "thing", None)], [(0, "thing", "0")], [(0, "Frame", 0)], [(0, "frames", 0)], [(0, "pair", 0)], [(0, "", 0)],
           [(0, None, 0)], [(0, [], 0)], [(0, ("frame",), 0)], [(0, "frame", 0), (0, "frame")], [(0, "frame", 0)] * 1001]


class Plain(CodeReference):
    """Runs code as the document tells it, with what is used when, and with what is away taken into account."""

    def __init__(self, code, most, gone=()):
        self.gifts = list(gone)
        self.away = set()
        self.used = []
        self.is_silent = False
        self.moment = 0
        self.most = most
        CodeReference.__init__(self, code, most)

    def count(self):
        """Who holds what is told by other tests."""

    def use(self, word, birth):
        self.used.append((self.moment, word, birth))

    def give(self, worth):
        if ("frame", self.top) in self.away:
            self.end = ("gone", "frame", self.top)
            return
        if self.top is not None:
            self.use("frame", self.top)
        CodeReference.give(self, worth)

    def row(self):
        self.moment += 1
        used = self.thing_used()
        if used is not None:
            self.use("thing", used)
        CodeReference.row(self)

    def thing_used(self):
        row = self.next_row()
        depth = {"open": 1, "call": 2, "last": 2}.get(row[0])
        return None if depth is None else self.running[3][-depth][1]

    def silent(self):
        CodeReference.silent(self)
        for moment, word, birth in self.gifts:
            if moment == self.moment and birth < len(self.frames if word == "frame" else self.things):
                self.away.add((word, birth))
        if self.end is None and ("thing", self.thing_used()) in self.away:
            self.end = ("gone", "thing", self.thing_used())

    def due(self, moment):
        _, _, frames, things = self.stores[moment]
        return tuple({birth: many for birth in made for many in [self.used_behind(moment, word, birth)] if many}
                     for word, made in (("frame", frames), ("thing", things)))

    def used_behind(self, moment, word, birth):
        return len([event for event in self.used if event[0] > moment and event[1:] == (word, birth)])

    def told(self):
        counts = run_code(self.code, 0)[2]
        for kind in self.kinds:
            counts[kind] += 1
        return (tuple(self.shown), self.end or ("more",), counts)


CODES = CODES_OF_PROGRAMS + CODES_OF_NONE + random_codes(660, 100)
OVER = [code for code in CODES if run_code(code, 60)[1] != ("more",)]


class DueTest(unittest.TestCase):
    def test_by_hand(self):
        code = compiled(TWICE)
        self.assertEqual(due(code, 0, 400), ({}, {}))
        self.assertEqual(due(code, 1, 400), ({0: 2}, {0: 1}))
        self.assertEqual(due(code, 4, 400), ({0: 1}, {0: 1, 1: 1}))
        self.assertEqual(due(code, 14, 400), ({}, {2: 1}))
        self.assertEqual(due(code, 20, 400), ({}, {}))
        self.assertEqual(due(moment=1, most=20, code=code), ({0: 2}, {0: 1}))

    def test_second_reading(self):
        many = 0
        for code in OVER:
            plain = Plain(code, 60)
            self.assertIsNotNone(plain.end)
            last = len(plain.kinds)
            for moment in range(last + 1):
                found = due(code, moment, 60)
                self.assertEqual(found, plain.due(moment))
                self.assertEqual([list(found[0]), list(found[1])], [sorted(found[0]), sorted(found[1])])
                reached = reach(code, moment)
                self.assertTrue(set(found[0]) <= set(reached[0]) and set(found[1]) <= set(reached[1]))
                self.assertEqual(idle(code, moment, 60), tuple(
                    tuple(birth for birth in births if birth not in used) for births, used in zip(reached, found)))
                many += len(found[0]) + len(found[1])
            self.assertEqual(due(code, last, last), ({}, {}))
            if last:
                self.assertRaises(NotOver, due, code, 0, last - 1)
                self.assertRaises(NotOver, due, code, last, last - 1)
                self.assertRaises(NotOver, idle, code, 0, last - 1)
                self.assertRaises(NotOver, least_store, code, last - 1)
            self.assertRaises(BadMoment, due, code, last + 1, 60)
            self.assertRaises(BadMoment, idle, code, last + 1, 60)
        self.assertGreater(len(OVER), 200)
        self.assertGreater(many, 2000)

    def test_things_of_programs_with_a_bill(self):
        for program in PROGRAMS:
            try:
                if bill(program) is None:
                    continue
            except TooMany:
                continue
            code = compiled(program)
            for moment in range(0, len(code_steps(code, 400)) + 1, 3):
                wanted = {birth: many for birth, many in uses_due(program, moment).items() if many}
                self.assertEqual(due(code, moment, 400)[1], wanted)

    def test_all_given_worths_are_due_where_the_frame_was_put_up(self):
        for code in OVER[::3]:
            given = returned(code, 60)
            _, _, frames, _ = store(code, len(code_steps(code, 60)))
            self.assertEqual(len(given), len(frames))
            born = {}
            for moment in range(len(code_steps(code, 60)) + 1):
                for birth in store(code, moment)[2]:
                    born.setdefault(birth, moment)
            for birth, moment in born.items():
                self.assertEqual(due(code, moment, 60)[0].get(birth, 0), given[birth])

    def test_what_is_held_for_nothing(self):
        program = ("let", "a", ("pair", ONE, TWO), ("let", "b", ("show", number(3)), ("pair", name("b"), name("a"))))
        code = compiled(program)
        self.assertEqual(due(code, 4, 99), ({}, {}))
        self.assertEqual(idle(code, 4, 99), ((), (0,)))
        self.assertEqual(idle(code, len(code_steps(code, 99)), 99)[1], (0, 1))
        # The frame of a keep whose part never returns is held by the place, and never given a worth.
        code = compiled(("show", ("keep", "k", ("call", ("number", 1), name("k")))))
        self.assertEqual(run_code(code, 99)[1], ("stuck",))
        self.assertEqual((due(code, 1, 99), idle(code, 1, 99)), (({}, {}), ((0,), (0,))))
        self.assertEqual(idle(code, 3, 99), ((0,), (0,)))

    def test_late_moments(self):
        code = compiled(of_steps(100000))
        self.assertEqual(len(code_steps(code, 100000)), 100000)
        self.assertEqual(due(code, 100000, 100000), ({}, {}))
        self.assertRaises(BadMoment, due, code, 100001, 100000)
        self.assertRaises(NotOver, due, code, 100000, 99999)
        self.assertRaises(NotOver, idle, code, 99999, 0)
        for told in (due, idle):
            self.assertRaises(NotOver, told, compiled(ENDLESS), 100000, 100000)
            self.assertRaises(BadMoment, told, compiled(ENDLESS), 100001, -1)
        self.assertRaises(NotOver, least_store, compiled(ENDLESS), 100000)
        self.assertEqual(due(compiled(STUCK), 0, 2), ({}, {}))
        self.assertRaises(NotOver, due, compiled(STUCK), 2, 1)


class LeastStoreTest(unittest.TestCase):
    def test_second_reading(self):
        for code in OVER:
            dues = [due(code, moment, 60) for moment in range(len(code_steps(code, 60)) + 1)]
            wanted = (max(len(frames) for frames, _ in dues), max(len(things) for _, things in dues))
            self.assertEqual(least_store(code, 60), wanted)

    def test_by_hand(self):
        self.assertEqual(least_store(compiled(TWICE), 400), (1, 2))
        self.assertEqual(least_store(compiled(number(7)), 1), (0, 0))
        self.assertEqual(least_store(compiled(summed(30)), 400), (30, 1))
        self.assertEqual(least_store(compiled(counted_down(30, ONE)), 400), (0, 1))
        self.assertEqual(least_store(most=20, code=compiled(TWICE)), (1, 2))
        self.assertEqual(least_store(compiled(summed(1500)), 100000), (1500, 1))


class WithoutTest(unittest.TestCase):
    def test_second_reading(self):
        r = random.Random(67)
        ends = {"frame": 0, "thing": 0, "as before": 0}
        for code in CODES:
            last = len(code_steps(code, 40))
            made = [("frame", birth) for birth in range(4)] + [("thing", birth) for birth in range(5)]
            used = Plain(code, 40).used
            for _ in range(6):
                gone = [(r.randint(0, last + 1), *r.choice(made)) for _ in range(r.choice([0, 1, 1, 2, 3, 6]))]
                if used and r.random() < 0.6:
                    at, word, birth = r.choice(used)
                    gone.insert(r.randint(0, len(gone)), (r.randint(max(at - 5, 0), at), word, birth))
                most = r.choice([40, last, max(last - 1, 0), r.randint(0, last)])
                found = run_without(code, most, gone)
                self.assertEqual(found, Plain(code, most, gone).told())
                ends[found[1][1] if found[1][0] == "gone" else "as before"] += 1
        self.assertTrue(all(many > 150 for many in ends.values()), ends)

    def test_the_same_exactly_if_none_is_due(self):
        r = random.Random(670)
        for code in OVER:
            whole = run_code(code, 60)
            plain = Plain(code, 60)
            for moment in range(len(plain.kinds) + 1):
                frames, things = plain.due(moment)
                _, _, frames_made, things_made = plain.stores[moment]
                idle_gone = [(moment, "frame", birth) for birth in frames_made if birth not in frames]
                idle_gone += [(moment, "thing", birth) for birth in things_made if birth not in things]
                self.assertEqual(run_without(code, 60, idle_gone), whole)
                needed = [("frame", birth) for birth in frames] + [("thing", birth) for birth in things]
                if needed:
                    word, birth = r.choice(needed)
                    gone = run_without(code, 60, [*idle_gone, (moment, word, birth)])
                    self.assertEqual(gone[1], ("gone", word, birth))

    def test_taken_away_as_soon_as_not_due(self):
        for code in OVER[::2]:
            plain = Plain(code, 60)
            gone = []
            for moment in range(len(plain.kinds) + 1):
                frames, things = plain.due(moment)
                _, _, frames_made, things_made = plain.stores[moment]
                gone += [(moment, "frame", birth) for birth in frames_made if birth not in frames]
                gone += [(moment, "thing", birth) for birth in things_made if birth not in things]
            gone = sorted(set(gone))[:1000]
            self.assertEqual(run_without(code, 60, gone), run_code(code, 60))

    def test_by_hand(self):
        code = compiled(TWICE)
        self.assertEqual(run_without(code, 400, []), run_code(code, 400))
        # The frame is given a worth behind the fourth step, and again behind the fourteenth one.
        for moment, most, end, steps in ((1, 400, ("gone", "frame", 0), 4), (3, 4, ("gone", "frame", 0), 4), (3, 3, ("more",), 3),
                                         (4, 400, ("gone", "frame", 0), 14), (14, 400, number(8), 20), (0, 400, number(8), 20)):
            _, found, counts = run_without(code, most, [(moment, "frame", 0)])
            self.assertEqual((found, sum(counts.values())), (end, steps))
        # The place is entered in the fourteenth step, which is not done without it.
        for most, end, steps in ((400, ("gone", "thing", 0), 13), (14, ("gone", "thing", 0), 13), (13, ("gone", "thing", 0), 13),
                                 (12, ("more",), 12)):
            _, found, counts = run_without(code, most, [(13, "thing", 0)])
            self.assertEqual((found, sum(counts.values())), (end, steps))
        self.assertEqual(run_without(code, 13, [(1, "thing", 0), (1, "frame", 0)])[1], ("gone", "frame", 0))
        self.assertEqual(run_without(code, 400, [(5, "thing", 0), (5, "frame", 0)])[1], ("gone", "thing", 0))
        self.assertEqual(run_without(code, 400, [(5, "frame", 0)] * 1000)[1], ("gone", "frame", 0))
        self.assertEqual(run_without(gone=((5, "frame", 0),), code=code, most=400)[1], ("gone", "frame", 0))

    def test_the_step_of_a_frame_that_is_away_is_shown(self):
        code = compiled(call(IDENTITY, ("show", call(("fun", "x", ("show", name("x"))), ONE))))
        shown, end, counts = run_without(code, 99, [(4, "frame", 0)])
        self.assertEqual((shown, end, counts["show"]), ((1,), ("gone", "frame", 0), 1))

    def test_an_open_and_a_call(self):
        code = compiled(("open", ("pair", ONE, TWO), "x", "y", name("x")))
        for most in (3, 4, 400):
            self.assertEqual(run_without(code, most, [(3, "thing", 0)])[1], ("gone", "thing", 0))
        self.assertEqual(run_without(code, 2, [(2, "thing", 0)])[1], ("more",))
        self.assertEqual(run_without(code, 400, [(2, "thing", 0), (4, "thing", 0)]), run_code(code, 400))
        code = compiled(call(IDENTITY, ONE))
        _, end, counts = run_without(code, 400, [(1, "thing", 0)])
        self.assertEqual((end, sum(counts.values()), counts["call"]), (("gone", "thing", 0), 2, 0))

    def test_what_is_away_may_be_carried_about(self):
        carried = ("let", "p", ("pair", ONE, TWO), ("let", "q", ("pair", name("p"), name("p")), ("open", name("q"), "a", "b", name("b"))))
        code = compiled(carried)
        self.assertEqual(run_without(code, 99, [(3, "thing", 0)]), run_code(code, 99))
        self.assertEqual(run_code(code, 99)[1], ("pair",))
        code = compiled(("let", "r", ("keep", "k", name("k")), ("pair", name("r"), name("r"))))
        self.assertEqual(run_without(code, 99, [(1, "thing", 0), (1, "frame", 0)])[1], ("gone", "frame", 0))
        self.assertEqual(run_without(code, 99, [(2, "thing", 0), (2, "frame", 0)]), run_code(code, 99))
        # What a function that is away holds is still there for its body.
        code = compiled(("let", "f", ("let", "a", number(4), ("fun", "x", name("a"))), call(name("f"), ONE)))
        self.assertEqual(run_without(code, 99, [(7, "thing", 0)])[1], number(4))

    def test_sorts_are_known(self):
        stuck = [("open", IDENTITY, "x", "y", ONE), call(("pair", ONE, TWO), ONE), ("choose", IDENTITY, ONE, TWO), ("show", IDENTITY),
                 ("work", "plus", IDENTITY, ONE), ("work", "plus", ONE, IDENTITY)]
        for program in stuck:
            code = compiled(program)
            gone = [(moment, "thing", 0) for moment in range(9)]
            self.assertEqual(run_without(code, 99, gone), run_code(code, 99))
            self.assertEqual(run_code(code, 99)[1], ("stuck",))


class RefusedTest(unittest.TestCase):
    def test_codes(self):
        for value in [*ODD, NO_CODE]:
            for told, given in ((due, (-1, -1)), (idle, (-1, -1)), (least_store, (-1,)), (run_without, (-1, None))):
                self.assertRaises(BadCode, told, value, *given)
        for told, given in ((due, (-1, -1)), (idle, (-1, -1)), (least_store, (-1,)), (run_without, (-1, None))):
            self.assertRaises(Misfit, told, MISFIT, *given)

    def test_moments_and_most(self):
        code = compiled(ENTERED)
        for told in (due, idle):
            for moment in [*NO_WHOLES, -1, 5, 100001]:
                self.assertRaises(BadMoment, told, code, moment, -1)
            for most in [*NO_WHOLES, -1, 100001]:
                self.assertRaises(BadMost, told, code, 4, most)
            self.assertRaises(NotOver, told, code, 4, 3)
            self.assertRaises(NotOver, told, code, 0, 0)
            self.assertTrue(told(code, 4, 4))
            self.assertTrue(told(code, 0, 100000))
        for most in [*NO_WHOLES, -1, 100001]:
            self.assertRaises(BadMost, least_store, code, most)
            self.assertRaises(BadMost, run_without, code, most, None)
        self.assertRaises(NotOver, least_store, code, 3)
        self.assertEqual(least_store(code, 4), (0, 1))

    def test_gone(self):
        code = compiled(ENTERED)
        for gone in NO_GONE:
            with self.subTest(gone=repr(gone)[:40]):
                self.assertRaises(BadGone, run_without, code, 9, gone)
        for gone in ([], (), [(0, "frame", 0)] * 1000, [(10 ** 29, "thing", 10 ** 29)], ((0, "thing", 0),)):
            self.assertEqual(run_without(code, 9, gone), run_code(code, 9))

    def test_nothing_passed_is_changed_and_what_is_told_is_new(self):
        code = compiled(TWICE)
        gone = [(5, "frame", 0), (6, "thing", 0)]
        run_without(code, 99, gone)
        self.assertEqual(gone, [(5, "frame", 0), (6, "thing", 0)])
        due(code, 4, 400)[0].clear()
        due(code, 4, 400)[1].clear()
        self.assertEqual(due(code, 4, 400), ({0: 1}, {0: 1, 1: 1}))


if __name__ == "__main__":
    unittest.main()
