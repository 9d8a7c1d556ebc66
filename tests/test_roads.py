"""Promises 91, 92 and 93: which steps return to a frame, and the roads that lead there."""

import unittest
from itertools import combinations

from returnsdue.ahead import returns_due, tallies, uses_due
from returnsdue.errors import BadBirth, BadMoment, BadProgram, NoBill, TooMany
from returnsdue.roads import entries, entries_of, is_road, returns, returns_to, roads
from returnsdue.running import steps
from returnsdue.terms import is_program
from tests.programs import (
    BY_HAND, ENDLESS, ENTERED, STUCK, TWICE, call, loop, name, number, of_steps, random_programs, variants,
)
from tests.reference import Reference
from tests.test_machines import DEEP, ENTERED_BEHIND_FRAMES
from tests.values import NO_WHOLES, ODD

ONE, TWO = number(1), number(2)
# A call2 frame whose own step enters the place again, and is returned to by that entry.
CALL2 = ("let", "p", ("keep", "k", ("pair", TWO, name("k"))), ("open", name("p"), "n", "k", (
    "choose", name("n"), call(name("k"), ("pair", ("work", "minus", name("n"), ONE), name("k"))), name("n"))))
# One place is entered behind another one.
BEHIND = ("open", ("keep", "j", ("pair", TWO, name("j"))), "n", "j", ("choose", name("n"), (
    "open", ("keep", "k", ("pair", ONE, name("k"))), "m", "k", ("choose", name("m"), call(
        name("k"), ("pair", number(0), name("k"))), call(name("j"), ("pair", ("work", "minus", name("n"), ONE), name("j"))))),
    ("show", name("n"))))
# A call whose function comes twice: its call2 waits when the argument keeps a place, and again behind an entry.
ARGUMENT = call(("fun", "r", ("open", name("r"), "n", "p", (
    "choose", name("n"), call(name("p"), ("pair", number(0), name("p"))), name("n")))), (
        "keep", "k", ("pair", ONE, name("k"))))
# What is called comes twice: call1 takes it behind an enter at once, and its call2 frames are two.
CALLED = ("let", "t", ("pair", ONE, ("keep", "k", ("pair", name("k"), TWO))), ("open", name("t"), "a", "q", (
    "open", name("q"), "k", "b", ("work", "plus", name("a"), ("choose", name("b"), call(
        name("k"), ("pair", name("k"), number(0))), name("b"))))))


def again(place, behind):
    """A place that is kept, entered once, and what comes behind that."""
    return ("let", "a", ("keep", place, ("pair", name(place), ONE)), ("open", name("a"), place, "n", (
        "choose", name("n"), call(name(place), ("pair", name(place), number(0))), behind)))


HOPS = ("show", again("i", again("j", again("k", number(7)))))
SPECIAL = [HOPS, CALL2, BEHIND, ARGUMENT, CALLED, DEEP, ENTERED_BEHIND_FRAMES]
PROGRAMS = BY_HAND + SPECIAL + [STUCK] + random_programs(910, 60, is_program)


def short(programs, most):
    return [program for program in programs if len(steps(program, most + 1)) <= most]


class Definition:
    """Roads as the document defines them, judged one condition after the other."""

    def __init__(self, program):
        self.run = Reference(program, 400)
        self.made = {}
        self.enters = {}
        for at, kind in enumerate(self.run.kinds, 1):
            if kind == "enter":
                self.enters[at] = next(birth for step, birth in self.run.uses if step == at)
        places = [birth for birth in self.run.things if self.run.things[birth][0] == "kept"]
        keeps = [at for at, kind in enumerate(self.run.kinds, 1) if kind == "keep"]
        self.made = dict(zip(places, keeps))

    def is_road(self, moment, birth, hops, step):
        second = self.run.frames[birth][0] == "call2"
        if (step, birth) not in self.run.returns or step <= moment:
            return False
        ahead = moment
        for at, (kept, entered) in enumerate(hops):
            if entered not in self.enters or entered <= moment or entered > step or (second and entered == step):
                return False
            if kept != self.made[self.enters[entered]]:
                return False
            if at > 0 and not (kept > moment and kept > ahead):
                return False
            if any(ahead < other < kept for other in self.enters):
                return False
            ahead = entered
        if any(ahead < other < step for other in self.enters):
            return False
        return second or step not in self.enters or (bool(hops) and ahead == step)

    def roads(self, moment, birth):
        """All roads, found by trying every row of entries."""
        pairs = [(self.made[place], at) for at, place in sorted(self.enters.items())]
        steps_to = [step for step, other in self.run.returns if other == birth and step > moment]
        found = []
        for step in steps_to:
            for many in range(len(pairs) + 1):
                found += [(hops, step) for hops in combinations(pairs, many) if self.is_road(moment, birth, hops, step)]
        return tuple(found)


class ReturnsTest(unittest.TestCase):
    def test_second_reading(self):
        for program in short(PROGRAMS, 400):
            plain = Reference(program, 400)
            self.assertEqual(returns(program), tuple(plain.returns))
            made = {}
            for at, kind in enumerate(plain.kinds, 1):
                if kind == "keep":
                    made[[birth for birth in plain.things if plain.things[birth][0] == "kept"][len(made)]] = at
            wanted = [(step, birth, made[birth]) for step, birth in plain.uses if plain.things[birth][0] == "kept"]
            self.assertEqual(entries(program), tuple(wanted))

    def test_by_hand(self):
        self.assertEqual(returns(number(3)), ())
        self.assertEqual(returns(("show", number(3))), ((2, 0),))
        # hold (work1 takes it), hold, work: one step with two returns, as show is given at once.
        program = ("work", "plus", ("show", ONE), TWO)
        self.assertEqual(steps(program, 9), ("hold", "show", "hold", "work"))
        self.assertEqual(returns(program), ((2, 1), (2, 0), (4, 2)))
        self.assertEqual(returns(ENTERED), ((2, 0), (4, 1)))
        self.assertEqual(entries(ENTERED), ((4, 0, 1),))
        self.assertEqual(entries(TWICE), ((14, 0, 1),))
        self.assertEqual(entries(loop(2, name("v"))), ((14, 0, 1), (24, 0, 1)))

    def test_a_worth_that_leaves_the_run_stuck_is_not_taken(self):
        self.assertEqual(returns(STUCK), ((1, 0),))
        self.assertEqual(returns(("show", ("fun", "x", name("x")))), ())
        self.assertEqual(returns(("open", ("show", ONE), "a", "b", name("a"))), ((2, 1),))

    def test_as_many_as_tallies_tells(self):
        for program in PROGRAMS:
            try:
                frames, _ = tallies(program)
            except (NoBill, TooMany):
                continue
            told = [birth for _, birth in returns(program)]
            self.assertEqual([told.count(birth) for birth in range(len(frames))], [many for _, _, many in frames])

    def test_no_step_has_two_returns_to_one_frame(self):
        for program in short(PROGRAMS, 400):
            self.assertEqual(len(set(returns(program))), len(returns(program)))


class StepsTest(unittest.TestCase):
    def test_steps_still_to_come(self):
        for program in short(PROGRAMS, 120):
            plain = Reference(program, 400)
            billed = plain.next[1] != ("stuck",)
            for moment in range(0, len(plain.kinds) + 1, 5):
                _, _, frames, things, _ = plain.states[moment]
                due = returns_due(program, moment) if billed else {}
                uses = uses_due(program, moment) if billed else {}
                for birth in frames:
                    wanted = tuple(step for step, other in plain.returns if other == birth and step > moment)
                    self.assertEqual(returns_to(program, moment, birth), wanted)
                    if billed:
                        self.assertEqual(len(wanted), due[birth])
                for birth in things:
                    if plain.things[birth][0] == "kept":
                        wanted = tuple(step for step, other in plain.uses if other == birth and step > moment)
                        self.assertEqual(entries_of(program, moment, birth), wanted)
                        if billed:
                            self.assertEqual(len(wanted), uses[birth])
                    else:
                        self.assertRaises(BadBirth, entries_of, program, moment, birth)

    def test_by_hand(self):
        self.assertEqual([returns_to(TWICE, moment, 0) for moment in (0, 4, 5, 14, 15, 20)],
                         [(5, 15), (5, 15), (15,), (15,), (), ()])
        self.assertEqual([entries_of(TWICE, moment, 0) for moment in (1, 13, 14)], [(14,), (14,), ()])
        self.assertEqual(entries_of(("keep", "k", ONE), 1, 0), ())

    def test_births_that_are_not_there_yet(self):
        # At moment 0 the frame 0 is there, the frame 1 only behind the keep, the frame 2 behind the 3.
        self.assertRaises(BadBirth, roads, TWICE, 0, 1)
        self.assertEqual(roads(TWICE, 1, 1), (((), 2),))
        self.assertRaises(BadBirth, roads, TWICE, 1, 2)
        self.assertEqual(returns_to(TWICE, 2, 2), (4,))
        self.assertRaises(BadBirth, entries_of, TWICE, 0, 0)
        self.assertEqual(entries_of(TWICE, 1, 0), (14,))
        self.assertRaises(BadBirth, entries_of, TWICE, 20, 1)
        for told in (returns_to, roads, entries_of):
            for birth in [*NO_WHOLES, -1, 10 ** 9]:
                self.assertRaises(BadBirth, told, TWICE, 20, birth)
        self.assertRaises(BadBirth, is_road, TWICE, 0, True, ((), 5))


class RoadsTest(unittest.TestCase):
    def test_example(self):
        self.assertEqual(roads(TWICE, 0, 0), (((), 5), (((1, 14),), 15)))
        self.assertEqual(roads(TWICE, 5, 0), ((((1, 14),), 15),))
        self.assertEqual(roads(TWICE, 14, 0), (((), 15),))
        self.assertEqual(roads(TWICE, 15, 0), ())

    def test_definition(self):
        tried = 0
        for program in short(PROGRAMS, 70):
            plain = Definition(program)
            if len(plain.enters) > 6:
                continue
            for moment in range(0, len(plain.run.kinds) + 1, 2):
                for birth in {birth for at in plain.run.states[:moment + 1] for birth in at[2]}:
                    found = roads(program, moment, birth)
                    self.assertEqual(found, plain.roads(moment, birth))
                    self.assertEqual(tuple(step for _, step in found), returns_to(program, moment, birth))
                    tried += any(len(hops) > 1 for hops, _ in found)
        self.assertGreater(tried, 10)

    def test_where_the_frame_waits(self):
        for program in short(PROGRAMS, 70):
            plain = Definition(program)

            def waits(moment, birth):
                top = plain.run.states[moment][1]
                while top is not None and top != birth:
                    top = plain.run.frames[top][4]
                return top == birth
            for moment in range(0, len(plain.run.kinds) + 1, 3):
                for birth in plain.run.states[moment][2]:
                    for hops, _ in roads(program, moment, birth):
                        if not hops or hops[0][0] > moment:
                            self.assertTrue(waits(moment, birth))
                        else:
                            self.assertTrue(waits(hops[0][0], birth))

    def test_frames_that_waited_only_when_a_place_was_kept(self):
        # Behind step 5 the frame 0 does not wait any more.
        found = roads(loop(2, name("v")), 6, 0)
        self.assertEqual(found, ((((1, 14),), 15), (((1, 24),), 25)))
        self.assertEqual(roads(loop(2, name("v")), 15, 0), ((((1, 24),), 25),))

    def test_several_hops(self):
        (i, _, one), (j, _, two), (k, _, three) = [(kept, place, step) for step, place, kept in entries(HOPS)]
        last = len(steps(HOPS, 400))
        self.assertEqual(roads(HOPS, 0, 0), ((((i, one), (j, two), (k, three)), last),))
        self.assertEqual(roads(HOPS, i, 0), ((((i, one), (j, two), (k, three)), last),))
        self.assertEqual(roads(HOPS, one, 0), ((((j, two), (k, three)), last),))
        self.assertEqual(roads(HOPS, j, 0), roads(HOPS, one, 0))
        self.assertEqual(roads(HOPS, two, 0), ((((k, three),), last),))
        self.assertEqual(roads(HOPS, three, 0), (((), last),))
        self.assertIs(is_road(HOPS, 0, 0, (((j, two), (k, three)), last)), False)
        self.assertIs(is_road(HOPS, 0, 0, (((i, one), (k, three)), last)), False)
        self.assertIs(is_road(HOPS, 0, 0, (((i, one), (j, two)), last)), False)

    def test_a_step_that_is_an_enter(self):
        # call1 is returned to at once behind the entry; the call2 that enters is returned to ahead of it.
        program = ("let", "f", ("keep", "k", ("pair", name("k"), ONE)), ("open", name("f"), "k", "n", (
            "choose", name("n"), ("let", "a", ("keep", "j", call(name("j"), TWO)), call(
                name("k"), ("pair", name("k"), number(0)))), name("n"))))
        at_once = ("work", "plus", ("keep", "j", call(name("j"), TWO)), ONE)
        self.assertEqual(steps(at_once, 9), ("keep", "look", "hold", "enter", "hold", "work"))
        self.assertEqual(roads(at_once, 0, 0), ((((1, 4),), 4),))
        self.assertEqual(roads(at_once, 3, 2), (((), 4),))
        self.assertEqual(roads(at_once, 4, 0), ())
        for program in (program, at_once, CALL2, ARGUMENT, CALLED):
            plain = Definition(program)
            for moment in range(len(plain.run.kinds) + 1):
                for birth in {birth for at in plain.run.states[:moment + 1] for birth in at[2]}:
                    self.assertEqual(roads(program, moment, birth), plain.roads(moment, birth))


class IsRoadTest(unittest.TestCase):
    def test_roads_changed_at_one_place(self):
        for program in (TWICE, CALL2, BEHIND, loop(3, name("v"))):
            for moment in (0, 3, 8):
                for birth in sorted(Reference(program, moment).frames)[:2]:
                    found = roads(program, moment, birth)
                    for road in found:
                        self.assertIs(is_road(program, moment, birth, road), True)
                        for other in variants(road):
                            same = any(other == right and not has_bool(other) for right in found)
                            self.assertIs(is_road(program, moment, birth, other), same and isinstance(other, tuple))

    def test_any_value(self):
        for value in [*ODD, ((), True), [(), 5], ([], 5), (((1, 14),), "15"), (((True, 14),), 15), ([(1, 14)], 15),
                      (([1, 14],), 15), (((1, 14, 1),), 15), (((1, 14),), 15, 0), ((), 15), (((1, 14),), 5), ((), 4)]:
            self.assertIs(is_road(TWICE, 0, 0, value), False)
        self.assertIs(is_road(TWICE, 0, 0, ((), 5)), True)
        self.assertIs(is_road(value=(((1, 14),), 15), birth=0, moment=0, program=TWICE), True)
        self.assertIs(is_road(("show", ONE), 0, 0, ((), 2)), True)
        self.assertIs(is_road(("show", ONE), 1, 0, ((), 2)), True)
        self.assertIs(is_road(("show", ONE), 2, 0, ((), 2)), False)


def has_bool(value):
    return isinstance(value, bool) or isinstance(value, (tuple, list)) and any(has_bool(item) for item in value)


class RefusedTest(unittest.TestCase):
    def test_programs(self):
        for value in ODD:
            self.assertRaises(BadProgram, returns, value)
            self.assertRaises(BadProgram, entries, value)
            for told in (returns_to, entries_of, roads):
                self.assertRaises(BadProgram, told, value, -1, -1)
            self.assertRaises(BadProgram, is_road, value, -1, -1, None)

    def test_moments(self):
        for told in (returns_to, entries_of, roads):
            for moment in [*NO_WHOLES, -1, 401, 10 ** 20]:
                self.assertRaises(BadMoment, told, ENDLESS, moment, None)
            self.assertRaises(BadMoment, told, TWICE, 21, None)
            self.assertRaises(BadBirth, told, TWICE, 20, None)
        self.assertRaises(BadMoment, is_road, TWICE, 21, None, None)
        self.assertRaises(BadBirth, is_road, TWICE, 20, None, None)
        self.assertRaises(BadMoment, returns_to, STUCK, 3, 0)
        self.assertEqual(returns_to(STUCK, 2, 1), ())
        self.assertEqual(returns_to(moment=1, birth=1, program=STUCK), ())
        self.assertEqual(entries_of(moment=1, place=0, program=TWICE), (14,))
        self.assertEqual(roads(moment=1, birth=0, program=TWICE), roads(TWICE, 1, 0))

    def test_400_steps_and_401(self):
        for program, many in ((of_steps(400), 400), (of_steps(401), 401)):
            self.assertEqual(len(steps(program, 999)), many)
            many_frames = len(Reference(program, 400).frames)
            for told in (returns, entries):
                if many == 400:
                    told(program)
                else:
                    self.assertRaises(TooMany, told, program)
            for told in (returns_to, roads):
                self.assertRaises(BadMoment, told, program, 401, None)
                self.assertRaises(BadBirth, told, program, 400, many_frames)
                if many == 400:
                    self.assertEqual(told(program, 400, many_frames - 1), ())
                else:
                    with self.assertRaises(TooMany) as caught:
                        told(program, 400, many_frames - 1)
                    self.assertEqual(caught.exception.most, 400)
            self.assertRaises(BadBirth, entries_of, program, 400, 0)
        self.assertRaises(TooMany, returns_to, ENDLESS, 2, 0)
        self.assertRaises(BadBirth, entries_of, ENDLESS, 2, 0)
        kept = ("let", "p", ("keep", "k", name("k")), ENDLESS)
        self.assertRaises(TooMany, entries_of, kept, 2, 0)
        self.assertRaises(BadBirth, entries_of, kept, 0, 0)
        self.assertRaises(TooMany, is_road, ENDLESS, 2, 0, None)


if __name__ == "__main__":
    unittest.main()
