"""Promise 65: a collector that lets go, walk by walk, of what cannot be reached."""

import random
import unittest

from returnsdue.codemachine import code_steps, run_code
from returnsdue.collector import run_kept
from returnsdue.compiler import compiled
from returnsdue.errors import BadCode, BadMost, BadPlan, Misfit
from returnsdue.store import reach
from tests.codereference import CodeReference
from tests.codes_made import CODES_OF_NONE, CODES_OF_PROGRAMS
from tests.programs import ENDLESS, ENTERED, IDENTITY, STUCK, TWICE, call, counted_down, loop, name, number, summed
from tests.values import NO_WHOLES, ODD

MISFIT = ((0, 1, (("slot", 0), ("return",))),)
NO_CODE = ((0, 1, (("slot", 1), ("return",))),)
PLANS = [[0], [1], [2], [3], [1000], [0, 1], [5, 0, 0], [1, 2, 3, 4], [0] * 7 + [40], (2, 1)]


def walks(code, most, plan):
    """The walks that end, told by what can be reached when they begin and how long they last."""
    plain = CodeReference(code, most)
    found = []
    gone = set()
    left = None
    for moment in range(1, len(plain.kinds) + 1):
        for _ in range(plan[(moment - 1) % len(plan)]):
            if left is None:
                begun, reached = moment, plain.reached(moment)
                left = len(reached[0]) + len(reached[1]) + 1
            elif left > 1:
                left -= 1
            else:
                _, _, frames, things = plain.stores[begun]
                away = tuple(tuple(birth for birth in made if birth not in kept and (word, birth) not in gone)
                             for word, made, kept in (("frame", frames, reached[0]), ("thing", things, reached[1])))
                gone |= {("frame", birth) for birth in away[0]} | {("thing", birth) for birth in away[1]}
                found.append((begun, moment, *away))
                left = None
    return found


class EachPlanTest(unittest.TestCase):
    def test_walks(self):
        r = random.Random(65)
        ended = 0
        for code in CODES_OF_PROGRAMS + CODES_OF_NONE:
            most = r.choice([10, 40, 40])
            plans = [r.choice(PLANS), [r.randint(0, 6) for _ in range(r.randint(1, 9))]]
            for plan in plans:
                shown, end, counts, gone = run_kept(code, most, plan)
                self.assertEqual((shown, end, counts), run_code(code, most))
                self.assertEqual(gone, walks(code, most, plan))
                ended += len(gone)
        self.assertGreater(ended, 500)

    def test_whatever_the_plan_the_same_is_told(self):
        for program in (TWICE, ENTERED, STUCK, loop(3, name("v")), summed(5)):
            code = compiled(program)
            for plan in PLANS + [[0] * 1000, [1000] * 1000]:
                for most in (0, 5, 400):
                    self.assertEqual(run_kept(code, most, plan)[:3], run_code(code, most))

    def test_what_is_let_go_is_let_go_once(self):
        for code in CODES_OF_NONE[::2]:
            for plan in ([1], [4], [1000]):
                _, _, _, gone = run_kept(code, 60, plan)
                frames = [birth for walk in gone for birth in walk[2]]
                things = [birth for walk in gone for birth in walk[3]]
                self.assertEqual((len(frames), len(things)), (len(set(frames)), len(set(things))))

    def test_gone_when_the_second_walk_has_ended(self):
        for code in CODES_OF_PROGRAMS[::2]:
            many = len(code_steps(code, 60))
            _, _, _, gone = run_kept(code, 60, [6])
            plain = CodeReference(code, 60)
            for moment in range(many):
                ended = [walk for walk in gone if walk[1] > moment][:2]
                if len(ended) == 2:
                    away = {birth for walk in gone if walk[1] <= ended[1][1] for birth in walk[3]}
                    unreached = set(plain.stores[moment][3]) - set(plain.reached(moment)[1])
                    self.assertLessEqual(unreached, away)


class ByHandTest(unittest.TestCase):
    def test_no_turns(self):
        for most in (0, 3, 99):
            self.assertEqual(run_kept(compiled(TWICE), most, [0])[3], [])
        self.assertEqual(run_kept(compiled(TWICE), 0, [1000]), (*run_code(compiled(TWICE), 0), []))

    def test_a_walk_that_ends_at_once(self):
        # hold, let, hold, show: behind the third step nothing can be reached any more.
        code = compiled(("show", ("let", "f", IDENTITY, number(3))))
        self.assertEqual(run_kept(code, 9, [3])[3],
                         [(1, 1, (), ()), (2, 2, (), ()), (3, 3, (), (0,)), (3, 4, (), ()), (4, 4, (), ())])
        self.assertEqual(run_kept(code, 9, [2])[3], [(1, 2, (), ()), (2, 3, (), ()), (4, 4, (), (0,))])
        self.assertEqual(run_kept(code, 9, [1])[3], [(1, 3, (), ())])
        self.assertEqual(run_kept(code, 9, [0, 0, 1, 1])[3], [(3, 4, (), (0,))])
        self.assertEqual(run_kept(code, 3, [0, 0, 1, 1])[3], [])

    def test_a_walk_that_lasts_over_many_steps(self):
        # While a walk is under way what is made is left alone, and what can no longer be reached stays.
        code = compiled(loop(3, name("v")))
        _, _, _, gone = run_kept(code, 400, [0, 1])
        self.assertEqual(gone, walks(code, 400, [0, 1]))
        self.assertTrue(any(ended - begun > 5 for begun, ended, _, _ in gone))

    def test_frames_are_let_go(self):
        code = compiled(("show", call(IDENTITY, ("show", call(IDENTITY, number(1))))))
        _, _, _, gone = run_kept(code, 99, [9])
        self.assertEqual(sorted(birth for walk in gone for birth in walk[2]), [0, 1])
        self.assertEqual([reach(code, moment)[0] for moment in range(1, 9)], [(), (), (), (0,), (), (), (1,), ()])

    def test_a_walk_under_way_at_the_end_is_not_told(self):
        code = compiled(ENTERED)
        self.assertEqual(run_kept(code, 99, [0, 0, 0, 1])[3], [])
        self.assertEqual(run_kept(code, 99, [0, 0, 0, 2])[3], [(4, 4, (), (0,))])
        self.assertEqual(run_kept(code, 99, [0, 0, 1])[3], [])
        self.assertEqual(run_kept(code, 99, [0, 0, 3])[3], [(3, 3, (), ())])
        self.assertEqual(run_kept(code, 99, [0, 0, 2, 1])[3], [(3, 4, (), ())])

    def test_a_stuck_run(self):
        code = ((0, 1, (("fun", 1, ()), ("let", 0), ("drop", 0), ("number", 1), ("number", 2), ("last",))),
                (0, 1, (("slot", 0), ("return",))))
        self.assertEqual(run_kept(code, 99, [0, 0, 0, 9]), (*run_code(code, 99), [(4, 4, (), (0,)), *[(4, 4, (), ())] * 3]))

    def test_long_runs(self):
        code = compiled(counted_down(3000, number(1)))
        shown, end, counts, gone = run_kept(code, 100000, [2])
        self.assertEqual((shown, end, counts), run_code(code, 100000))
        self.assertGreater(len(gone), 5000)
        code = compiled(loop(2000, name("v")))
        self.assertEqual(run_kept(code, 100000, [3])[:3], run_code(code, 100000))
        things = [birth for walk in run_kept(code, 100000, [3])[3] for birth in walk[3]]
        self.assertGreater(len(things), 1900)


class RefusedTest(unittest.TestCase):
    def test_plans(self):
        code = compiled(STUCK)
        for plan in [None, 1, "1", {}, {0: 1}, [], (), [0] * 1001, [1001], [-1], [True], [False], [1, None], ["1"], [[1]],
                     [1] * 999 + [1001], {1, 2}, TWICE]:
            with self.subTest(plan=repr(plan)[:40]):
                self.assertRaises(BadPlan, run_kept, code, 5, plan)
        for plan in ([0], [1000], [0] * 1000, (1000,) * 1000):
            self.assertEqual(run_kept(code, 5, plan)[:3], run_code(code, 5))
        self.assertEqual(run_kept(plan=[1], most=5, code=code), run_kept(code, 5, [1]))

    def test_order(self):
        for value in [*ODD, NO_CODE]:
            self.assertRaises(BadCode, run_kept, value, -1, [])
        self.assertRaises(Misfit, run_kept, MISFIT, -1, [])
        for most in [*NO_WHOLES, -1, 100001]:
            self.assertRaises(BadMost, run_kept, compiled(ENDLESS), most, [])

    def test_a_plan_is_not_changed(self):
        plan = [3, 0, 1]
        run_kept(compiled(TWICE), 99, plan)
        self.assertEqual(plan, [3, 0, 1])


if __name__ == "__main__":
    unittest.main()
