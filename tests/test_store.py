"""Promise 64: what a run of code holds, what can be reached in it, and who holds it."""

import unittest

from returnsdue.ahead import tallies
from returnsdue.codemachine import code_steps
from returnsdue.compiler import compiled
from returnsdue.errors import BadCode, BadMoment, Misfit
from returnsdue.store import holders, reach, store
from tests.codereference import CodeReference
from tests.codes_made import CODES_OF_NONE, CODES_OF_PROGRAMS, random_codes
from tests.programs import ENDLESS, ENTERED, IDENTITY, STUCK, TWICE, call, name, number, summed
from tests.values import NO_WHOLES, ODD

ONE, TWO = number(1), number(2)
RETURN = ("return",)
MISFIT = ((0, 1, (("slot", 0), RETURN)),)
NO_CODE = ((0, 1, (("slot", 1), RETURN)),)
TOLD = (store, reach, holders)


def thing(birth):
    return ("thing", birth)


class ByHandTest(unittest.TestCase):
    def test_a_kept_place(self):
        # Rows: 0 keeplast, 1 slot, 2 number, 3 last.
        code = compiled(ENTERED)
        kept = {0: ("kept", None)}
        self.assertEqual(store(code, 0), ((0, 0, (), (), None), None, {}, {}))
        self.assertEqual(store(code, 1), ((0, 1, ((0, thing(0)),), (), None), None, {}, kept))
        self.assertEqual(store(code, 2), ((0, 2, ((0, thing(0)),), (thing(0),), None), None, {}, kept))
        self.assertEqual(store(code, 3), ((0, 3, ((0, thing(0)),), (thing(0), number(5)), None), None, {}, kept))
        self.assertEqual(store(code, 4), (("end", number(5)), None, {}, kept))
        self.assertEqual([reach(code, moment) for moment in range(5)], [((), ()), *[((), (0,))] * 3, ((), ())])
        self.assertEqual([holders(code, moment)[1] for moment in range(5)], [{}, {0: 1}, {0: 2}, {0: 2}, {}])

    def test_frames(self):
        program = ("let", "a", number(9), ("show", call(("fun", "x", ("show", ("keep", "k", name("x")))), name("a"))))
        # Block 0: number let fun slot call show return; block 1: keep slot return show return.
        code = compiled(program)
        self.assertEqual(store(code, 4), ((0, 4, ((0, number(9)),), (thing(0), number(9)), None), None, {},
                                          {0: ("function", 1, ())}))
        frame = (0, 5, ((0, number(9)),), (), None, None)
        self.assertEqual(store(code, 5), ((1, 0, ((0, number(9)),), (), 0), 0, {0: frame}, {0: ("function", 1, ())}))
        inner = (1, 3, ((0, number(9)),), (), 0, 0)
        running = (1, 1, ((0, number(9)), (1, thing(1))), (), 0)
        things = {0: ("function", 1, ()), 1: ("kept", 1)}
        self.assertEqual(store(code, 6), (running, 1, {0: frame, 1: inner}, things))
        self.assertEqual(holders(code, 6), ({0: 1, 1: 2}, {0: 2, 1: 1}))
        self.assertEqual(store(code, 7), ((1, 3, ((0, number(9)),), (number(9),), 0), 0, {0: frame, 1: inner}, things))
        self.assertEqual((reach(code, 7), holders(code, 7)), (((0,), (0,)), ({0: 1}, {0: 1})))
        self.assertEqual(store(code, 9), (("end", number(9)), None, {0: frame, 1: inner}, things))
        self.assertEqual((reach(code, 9), holders(code, 9)), (((), ()), ({}, {})))

    def test_what_is_held_and_picked(self):
        code = compiled(("let", "a", ("pair", ONE, TWO), ("fun", "x", ("pair", name("a"), name("a")))))
        self.assertEqual(store(code, 5), (("end", thing(1)), None, {}, {0: ("pair", ONE, TWO), 1: ("function", 1, (thing(0),))}))
        self.assertEqual((reach(code, 5), holders(code, 5)), (((), (0, 1)), ({}, {0: 1, 1: 1})))
        twice = ((0, 1, (ONE, ("let", 0), ("def", 1, (("slot", 0), ("slot", 0)), 0), ("slot", 0), RETURN)),
                 (2, 1, (("slot", 0), RETURN)))
        self.assertEqual(store(twice, 3)[3], {0: ("function", 1, (ONE, ONE))})

    def test_several_places_of_one_thing(self):
        code = ((0, 2, (("fun", 1, ()), ("let", 0), ("slot", 0), ("slot", 0), ("pair",), ("slot", 0), ("pair",), RETURN)),
                (0, 1, (("slot", 0), RETURN)))
        self.assertEqual([holders(code, moment)[1] for moment in range(8)], [
            {}, {0: 1}, {0: 1}, {0: 2}, {0: 3}, {0: 3, 1: 1}, {0: 4, 1: 1}, {0: 3, 1: 1, 2: 1}])
        self.assertEqual(store(code, 7)[0], ("end", thing(2)))

    def test_stuck(self):
        code = compiled(STUCK)
        self.assertEqual(store(code, 2), ((0, 2, (), (ONE, TWO), None), None, {}, {}))
        self.assertRaises(BadMoment, store, code, 3)
        code = ((0, 2, (("fun", 1, ()), ("keep", 0, 4), ("slot", 0), ("show",), ("pair",), RETURN)), (0, 1, (ONE, RETURN)))
        self.assertRaises(Misfit, store, code, 2)
        code = ((0, 2, (("fun", 1, ()), ("keep", 0, 5), ("slot", 0), ("show",), RETURN, ("pair",), RETURN)), (0, 1, (ONE, RETURN)))
        running = (0, 3, ((0, thing(1)),), (thing(1),), None)
        frame = (0, 5, (), (thing(0),), None, None)
        things = {0: ("function", 1, ()), 1: ("kept", 0)}
        self.assertEqual(store(code, 3), (running, 0, {0: frame}, things))
        self.assertEqual((reach(code, 3), holders(code, 3)), (((0,), (0, 1)), ({0: 2}, {0: 1, 1: 2})))

    def test_silent_rows_let_go_at_once(self):
        code = compiled(("show", ("let", "f", IDENTITY, number(3))))
        self.assertEqual(code_steps(code, 9), ("hold", "let", "hold", "show"))
        self.assertEqual([holders(code, moment)[1] for moment in range(5)], [{}, {0: 1}, {0: 1}, {}, {}])
        self.assertEqual(store(code, 3)[0], (0, 4, (), (number(3),), None))

    def test_a_kept_place_that_is_the_end(self):
        code = compiled(("keep", "k", name("k")))
        self.assertEqual(store(code, 2), (("end", thing(0)), None, {}, {0: ("kept", None)}))
        program = ("let", "a", ("keep", "k", name("k")), name("a"))
        found = store(compiled(program), 4)
        self.assertEqual((found[0], found[1], reach(compiled(program), 4)), (("end", thing(0)), None, ((0,), (0,))))


class EachCodeTest(unittest.TestCase):
    def test_second_reading(self):
        for code in CODES_OF_PROGRAMS + CODES_OF_NONE + random_codes(640, 150):
            plain = CodeReference(code, 40)
            for moment, wanted in enumerate(plain.stores):
                found = store(code, moment)
                self.assertEqual(found, wanted)
                self.assertEqual([list(found[2]), list(found[3])], [sorted(found[2]), sorted(found[3])])
                reached = reach(code, moment)
                self.assertEqual(reached, plain.reached(moment))
                held = holders(code, moment)
                # The second reading lets go by counting alone, row by row.
                self.assertEqual(held, plain.held[moment])
                self.assertEqual((tuple(held[0]), tuple(held[1])), reached)
            if plain.end is not None:
                for told in TOLD:
                    self.assertRaises(BadMoment, told, code, len(plain.kinds) + 1)

    def test_frames_and_things_hold_only_what_was_made_before_them(self):
        for code in CODES_OF_NONE:
            _, _, frames, things = store(code, len(code_steps(code, 60)))
            for birth, row in frames.items():
                self.assertTrue(row[5] is None or row[5] < birth)
            for birth, row in things.items():
                if row[0] != "kept":
                    worths = row[2] if row[0] == "function" else row[1:]
                    self.assertTrue(all(worth[1] < birth for worth in worths if worth[0] == "thing"))

    def test_things_are_those_of_the_program(self):
        for program in (TWICE, ENTERED, summed(3)):
            code = compiled(program)
            self.assertEqual(len(store(code, len(code_steps(code, 400)))[3]), len(tallies(program)[1]))

    def test_many_waiting_frames(self):
        code = compiled(summed(1500))
        moment = 3 + 8 * 1400
        _, top, frames, _ = store(code, moment)
        self.assertGreater(len(frames), 1000)
        self.assertEqual((reach(code, moment)[0], top), (tuple(range(len(frames))), len(frames) - 1))
        self.assertEqual(holders(code, moment)[0], {birth: 1 for birth in range(len(frames))})
        last = len(code_steps(code, 100000))
        self.assertEqual(reach(code, last), ((), ()))
        self.assertEqual(len(store(code, last)[2]), 1500)

    def test_late_moments(self):
        code = compiled(ENDLESS)
        running, top, frames, things = store(code, 100000)
        self.assertEqual((top, frames, list(things)), (None, {}, [0]))
        self.assertEqual(reach(code, 100000)[1], (0,))
        for told in TOLD:
            self.assertRaises(BadMoment, told, code, 100001)


class RefusedTest(unittest.TestCase):
    def test_refused(self):
        for told in TOLD:
            for value in [*ODD, NO_CODE]:
                self.assertRaises(BadCode, told, value, -1)
            self.assertRaises(Misfit, told, MISFIT, -1)
            for moment in [*NO_WHOLES, -1, 10 ** 29, 5]:
                self.assertRaises(BadMoment, told, compiled(ENTERED), moment)
            self.assertTrue(told(moment=3, code=compiled(ENTERED)))

    def test_what_is_told_is_new(self):
        code = compiled(TWICE)
        for told, at in ((store, 2), (store, 3), (holders, 0), (holders, 1)):
            before = dict(told(code, 9)[at])
            told(code, 9)[at].clear()
            self.assertEqual(told(code, 9)[at], before)
            self.assertTrue(before)


if __name__ == "__main__":
    unittest.main()
