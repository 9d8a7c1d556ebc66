"""Promises 8, 9, 21, 22 and 23: runs, their steps, and their states."""

import unittest

from returnsdue.errors import BadMoment, BadMost, BadProgram
from returnsdue.running import run, state, steps
from returnsdue.terms import is_program
from tests.programs import (
    BY_HAND, ENDLESS, ENTERED, STUCK, TWICE, call, chained, counted_down, loop, name, number, random_programs, summed,
)
from tests.reference import Reference
from tests.values import NO_WHOLES, ODD

KINDS = ["call", "choose", "def", "enter", "hold", "keep", "let", "look", "open", "show", "work"]
PROGRAMS = BY_HAND + [ENDLESS, STUCK] + random_programs(22, 150, is_program)
IDENTITY = ("fun", "x", name("x"))
WORTHS = {"number": number(1), "function": IDENTITY, "pair": ("pair", number(1), number(2)),
          "kept": ("keep", "j", name("j"))}


def counts(**many):
    return {kind: many.get(kind, 0) for kind in KINDS}


class RunTest(unittest.TestCase):
    def test_example(self):
        shown, end, many = run(TWICE, 1000)
        self.assertEqual((shown, end), ((), ("number", 8)))
        self.assertEqual([many[kind] for kind in ("keep", "open", "choose", "work", "enter")], [1, 2, 2, 2, 1])
        self.assertEqual(run(ENTERED, 9), ((), number(5), counts(keep=1, look=1, hold=1, enter=1)))

    def test_ends(self):
        self.assertEqual(run(number(-3), 1), ((), ("number", -3), counts(hold=1)))
        self.assertEqual(run(IDENTITY, 1)[1], ("function",))
        self.assertEqual(run(WORTHS["pair"], 3)[1], ("pair",))
        self.assertEqual(run(WORTHS["kept"], 2)[1], ("kept",))
        self.assertEqual(run(("def", "y", "x", name("x"), name("y")), 2)[1], ("function",))
        self.assertEqual(run(STUCK, 9), ((), ("stuck",), counts(hold=2)))
        self.assertEqual(run(ENDLESS, 9)[1], ("more",))

    def test_counts_have_their_order(self):
        for program in PROGRAMS:
            self.assertEqual(list(run(program, 50)[2]), KINDS)

    def test_most(self):
        program = ("show", ("show", number(4)))
        self.assertEqual(run(program, 0), ((), ("more",), counts()))
        self.assertEqual(run(program, 1), ((), ("more",), counts(hold=1)))
        self.assertEqual(run(program, 2), ((4,), ("more",), counts(hold=1, show=1)))
        self.assertEqual(run(program, 3), ((4, 4), number(4), counts(hold=1, show=2)))
        self.assertEqual(run(program, 4), run(program, 3))
        self.assertEqual([steps(program, most) for most in range(5)],
                         [(), ("hold",), ("hold", "show"), ("hold", "show", "show"), ("hold", "show", "show")])

    def test_each_step(self):
        self.assertEqual(steps(("let", "x", number(1), name("x")), 9), ("hold", "let", "look"))
        self.assertEqual(steps(call(IDENTITY, number(1)), 9), ("hold", "hold", "call", "look"))
        self.assertEqual(steps(("pair", number(1), number(2)), 9), ("hold", "hold", "hold"))
        self.assertEqual(steps(("open", WORTHS["pair"], "a", "b", name("b")), 9), ("hold",) * 3 + ("open", "look"))
        self.assertEqual(steps(("choose", number(0), number(1), ("show", number(2))), 9),
                         ("hold", "choose", "hold", "show"))
        self.assertEqual(steps(("work", "plus", number(1), number(2)), 9), ("hold", "hold", "work"))
        self.assertEqual(steps(("def", "y", "x", name("x"), name("y")), 9), ("def", "look"))
        self.assertEqual(steps(ENTERED, 9), ("keep", "look", "hold", "enter"))

    def test_works(self):
        wanted = {("plus", 2, 3): 5, ("minus", 2, 3): -1, ("times", 2, 3): 6, ("less", 2, 3): 1, ("less", 3, 3): 0,
                  ("less", 4, 3): 0, ("same", 3, 3): 1, ("same", 3, 4): 0, ("less", -5, -4): 1}
        for (word, one, other), result in wanted.items():
            self.assertEqual(run(("work", word, number(one), number(other)), 9)[1], number(result))

    def test_works_of_30_and_31_digits(self):
        most = 10 ** 30 - 1
        for word, one, other, result in (("plus", most, 0, most), ("plus", most - 1, 1, most), ("minus", -most, 0, -most),
                                         ("times", 10 ** 15, 10 ** 14, 10 ** 29), ("minus", most, most, 0)):
            self.assertEqual(run(("work", word, number(one), number(other)), 9)[1], number(result))
        for word, one, other in (("plus", most, 1), ("minus", -most, 1), ("times", 10 ** 15, 10 ** 15),
                                 ("times", 10 ** 15, -10 ** 15), ("times", most, most)):
            self.assertEqual(run(("work", word, number(one), number(other)), 9), ((), ("stuck",), counts(hold=2)))

    def test_choose_is_zero_or_not(self):
        for n, end in ((0, 2), (1, 1), (-1, 1), (10 ** 29, 1)):
            self.assertEqual(run(("choose", number(n), number(1), number(2)), 9)[1], number(end))

    def test_frames_that_cannot_take_a_worth(self):
        frames = {
            "call1": (lambda e: ("keep", "k", call(name("k"), call(e, number(1)))), ("function",)),
            "open": (lambda e: ("open", e, "a", "b", number(1)), ("pair",)),
            "choose": (lambda e: ("choose", e, number(1), number(2)), ("number",)),
            "show": (lambda e: ("show", e), ("number",)),
            "work1": (lambda e: ("work", "plus", e, number(1)), ("number",)),
            "work2": (lambda e: ("work", "same", number(1), e), ("number",)),
            "let": (lambda e: ("let", "a", e, number(1)), tuple(WORTHS)),
            "pair1": (lambda e: ("pair", e, number(1)), tuple(WORTHS)),
            "call2": (lambda e: call(IDENTITY, e), tuple(WORTHS)),
        }
        for kind, (around, taken) in frames.items():
            for sort, worth in WORTHS.items():
                with self.subTest(kind=kind, sort=sort):
                    # The place j is entered with a number, which cannot be called in its turn.
                    self.assertEqual(run(around(worth), 99)[1] == ("stuck",), sort not in taken)

    def test_no_step_where_it_is_stuck(self):
        self.assertEqual(run(("show", IDENTITY), 1), ((), ("stuck",), counts(hold=1)))
        self.assertEqual(run(("show", IDENTITY), 0), ((), ("more",), counts()))
        self.assertEqual(steps(("work", "plus", IDENTITY, ("show", number(2))), 9), ("hold", "hold", "show"))

    def test_names_that_hide_one_another(self):
        plus = ("work", "plus", name("x"), number(10))
        self.assertEqual(run(("let", "x", number(1), ("let", "x", plus, plus)), 99)[1], number(21))
        self.assertEqual(run(("let", "x", number(1), call(("fun", "x", plus), number(5))), 99)[1], number(15))
        inner = call(("fun", "y", plus), number(0))
        self.assertEqual(run(("let", "x", number(1), ("let", "f", ("fun", "y", plus), (
            "let", "x", number(7), call(name("f"), number(0))))), 99)[1], number(11))
        self.assertEqual(run(("let", "x", number(2), inner), 99)[1], number(12))
        self.assertEqual(run(("let", "y", number(3), ("def", "y", "x", name("x"), call(name("y"), number(4)))), 99)[1],
                         number(4))
        self.assertEqual(run(("let", "x", number(3), ("def", "y", "x", name("x"), name("x"))), 99)[1], number(3))

    def test_left_to_right(self):
        both = ("show", number(1)), ("show", number(2))
        for e in (("pair", *both), ("work", "plus", *both), call(("let", "a", both[0], IDENTITY), both[1])):
            self.assertEqual(run(e, 99)[0], (1, 2))

    def test_kept_places_entered_never_once_and_many_times(self):
        self.assertEqual(run(("keep", "k", number(3)), 9), ((), number(3), counts(keep=1, hold=1)))
        self.assertEqual(run(("show", ENTERED), 9), ((5,), number(5), counts(keep=1, look=1, hold=1, enter=1, show=1)))
        shown, end, many = run(loop(3, ("show", name("v"))), 999)
        self.assertEqual((shown, end, many["enter"], many["keep"], many["open"]), ((0,), number(0), 3, 1, 4))

    def test_a_place_lets_the_frames_that_wait_go(self):
        program = ("keep", "k", ("work", "plus", number(1), ("show", call(name("k"), number(7)))))
        self.assertEqual(run(program, 99)[:2], ((), number(7)))

    def test_a_def_has_itself(self):
        self.assertEqual(run(summed(10), 1000)[1], number(55))
        self.assertEqual(run(counted_down(9, name("y")), 1000)[1], ("function",))

    def test_thousands_of_steps(self):
        _, end, many = run(counted_down(9000, ("show", number(5))), 100000)
        self.assertEqual((end, many["call"], sum(many.values())), (number(5), 9001, 3 + 7 * 9000 + 1 + 2 + 2))
        _, end, many = run(loop(5000, name("v")), 100000)
        self.assertEqual((end, many["enter"], many["keep"]), (number(0), 5000, 1))
        _, end, many = run(summed(4000), 100000)
        self.assertEqual((end, many["call"]), (number(4000 * 4001 // 2), 4001))

    def test_a_program_that_never_ends(self):
        _, end, many = run(ENDLESS, 100000)
        self.assertEqual((end, sum(many.values())), (("more",), 100000))
        self.assertEqual(len(steps(ENDLESS, 100000)), 100000)

    def test_refused(self):
        for value in ODD:
            self.assertRaises(BadProgram, run, value, 5)
            self.assertRaises(BadProgram, steps, value, None)
            self.assertRaises(BadProgram, state, value, -1)
        self.assertRaises(BadProgram, run, name("x"), 5)
        for most in [*NO_WHOLES, -1, 100001, 10 ** 29]:
            with self.subTest(most=repr(most)):
                self.assertRaises(BadMost, run, TWICE, most)
                self.assertRaises(BadMost, steps, TWICE, most)

    def test_by_name(self):
        self.assertEqual(run(most=9, program=number(1)), run(number(1), 9))
        self.assertEqual(steps(most=9, program=number(1)), ("hold",))
        self.assertEqual(state(moment=1, program=number(1)), state(number(1), 1))

    def test_results_are_new(self):
        run(TWICE, 9)[2]["call"] = 7
        self.assertEqual(run(TWICE, 9)[2]["call"], 0)
        state(TWICE, 6)[2].clear()
        self.assertTrue(state(TWICE, 6)[2])


class StateTest(unittest.TestCase):
    def test_states_by_hand(self):
        program = ("let", "x", number(1), ("work", "plus", name("x"), ("show", name("x"))))
        let = ("let", (), (), None, None)
        self.assertEqual(state(program, 0), (("at", (2,), ()), 0, {0: let}, {}, ()))
        self.assertEqual(state(program, 1), (("with", number(1)), 0, {0: let}, {}, ()))
        names = (("x", number(1)),)
        self.assertEqual(state(program, 2),
                         (("at", (3, 2), names), 1, {1: ("work1", (3,), names, None, None)}, {}, ()))
        work = ("work2", (3,), (), number(1), None)
        self.assertEqual(state(program, 3),
                         (("at", (3, 3, 1), names), 3, {2: work, 3: ("show", (3, 3), (), None, 2)}, {}, ()))
        self.assertEqual(state(program, 5), (("with", number(1)), 2, {2: work}, {}, (1,)))
        self.assertEqual(state(program, 6), (("end", number(2)), None, {}, {}, (1,)))

    def test_a_stuck_state(self):
        frame = ("call2", (), (), number(1), None)
        self.assertEqual(state(STUCK, 2), (("end", ("stuck",)), 1, {1: frame}, {}, ()))
        program = ("let", "x", number(5), ("choose", IDENTITY, name("x"), number(1)))
        wanted = {1: ("choose", (3,), (("x", number(5)),), None, None)}
        self.assertEqual(state(program, 3), (("end", ("stuck",)), 1, wanted, {}, ()))

    def test_a_def_is_among_its_names(self):
        program = ("let", "z", number(3), ("def", "y", "x", ("pair", name("y"), ("pair", name("x"), name("z"))), (
            "pair", name("y"), number(1))))
        thing = ("function", (3,), (("y", ("thing", 0)), ("z", number(3))))
        self.assertEqual(state(program, 3)[3], {0: thing})

    def test_a_kept_place(self):
        program = ("show", ("keep", "k", ("let", "a", name("k"), call(name("a"), number(1)))))
        self.assertEqual(state(program, 1)[3], {0: ("kept", 0)})
        self.assertEqual(state(("keep", "k", name("k")), 1),
                         (("at", (2,), (("k", ("thing", 0)),)), None, {}, {0: ("kept", None)}, ()))

    def test_the_end_reaches_nothing(self):
        self.assertEqual(state(WORTHS["kept"], 2), (("end", ("kept",)), None, {}, {}, ()))
        self.assertEqual(state(WORTHS["pair"], 3), (("end", ("pair",)), None, {}, {}, ()))

    def test_states_are_those_of_a_second_reading(self):
        for program in PROGRAMS:
            reference = Reference(program, 60)
            for moment, wanted in enumerate(reference.states):
                found = state(program, moment)
                self.assertEqual(found, wanted)
                self.assertEqual(list(found[2]), sorted(found[2]))
                self.assertEqual(list(found[3]), sorted(found[3]))
            self.assertEqual(steps(program, 60), tuple(reference.kinds))
            end = reference.next[1] if reference.next[0] == "end" else ("more",)
            self.assertEqual(run(program, 60)[:2], (reference.shown, end))

    def test_moments(self):
        self.assertEqual(state(number(1), 0)[0], ("at", (), ()))
        self.assertEqual(state(number(1), 1)[0], ("end", number(1)))
        self.assertRaises(BadMoment, state, number(1), 2)
        self.assertRaises(BadMoment, state, STUCK, 3)
        for moment in [*NO_WHOLES, -1, 100001]:
            self.assertRaises(BadMoment, state, ENDLESS, moment)

    def test_late_moments(self):
        control, top, frames, things, shown = state(ENDLESS, 100000)
        self.assertEqual((control[0], list(frames) in ([], [top]), list(things), shown), ("at", True, [0], ()))
        found = state(summed(3000), 3 + 7 * 3000)
        self.assertGreater(len(found[2]), 2000)
        self.assertEqual(state(chained(50), 51)[4], (0,) * 50)


if __name__ == "__main__":
    unittest.main()
