"""Promise 52: codes that fit, their ways, heights and slots."""

import unittest

from returnsdue.errors import BadCode, Misfit
from returnsdue.loader import fits, heights, sets, ways
from tests.codereference import Ways
from tests.codes_made import CODES_OF_NONE, CODES_OF_PROGRAMS, changed_codes, random_codes
from tests.values import ODD

ONE = ("number", 1)
RETURN = ("return",)
LAST = ("last",)
EXAMPLE = ((0, 1, (("number", 4), ("let", 0), ("slot", 0), RETURN)),)
BODY = (0, 1, (ONE, RETURN))
# What makes a worth of any number of worths: a block ends behind these.
ENDS = {0: (ONE, RETURN), **{many: (("pair",),) * (many - 1) + (RETURN,) for many in range(1, 5)}}


def code_of(*rows, slots=4, more=(BODY, (1, 1, (ONE, RETURN)))):
    """A code whose block 0 has these rows; block 1 has nothing held, block 2 one worth."""
    return ((0, slots, rows), *more)


def in_body(*rows, slots=4, held=1):
    """A code whose block 1 has these rows, with slot 0 set."""
    return ((0, 0, (ONE, RETURN)), (held, slots, rows), BODY)


class ExampleTest(unittest.TestCase):
    def test_example(self):
        self.assertIs(fits(EXAMPLE), True)
        self.assertEqual(heights(EXAMPLE), [[0, 1, 0, 1]])
        self.assertEqual(sets(EXAMPLE), [[(), (), (0,), (0,)]])
        self.assertEqual(ways(EXAMPLE), [1])
        _, *rows = EXAMPLE[0][2]
        self.assertIs(fits(((0, 1, (("slot", 0), *rows)),)), False)

    def test_slot_0_is_set_in_all_blocks_but_the_first(self):
        self.assertIs(fits(code_of(("slot", 0), RETURN)), False)
        self.assertIs(fits(in_body(("slot", 0), RETURN)), True)
        self.assertIs(fits(in_body(("slot", 1), RETURN)), False)
        self.assertEqual(sets(in_body(("slot", 0), RETURN))[:2], [[(), ()], [(0,), (0,)]])

    def test_by_name_and_new(self):
        self.assertEqual([fits(code=EXAMPLE), ways(code=EXAMPLE)], [True, [1]])
        for told in (ways, heights, sets):
            found = told(code=EXAMPLE)
            found.clear()
            self.assertTrue(told(EXAMPLE))
        heights(EXAMPLE)[0][0] = 7
        sets(EXAMPLE)[0].clear()
        self.assertEqual((heights(EXAMPLE)[0][0], len(sets(EXAMPLE)[0])), (0, 4))


class RowsTest(unittest.TestCase):
    def ends(self, rows, height):
        """Rows behind which this height lies, with what ends the block behind them."""
        return code_of(*rows, *ENDS[height])

    def test_heights(self):
        # Each row with how many worths it needs, and how many more or fewer lie there behind it.
        needs = {
            ("number", 7): (0, 1), ("fun", 1, ()): (0, 1), ("def", 1, (), 2): (0, 0), ("let", 3): (1, -1),
            ("open", 0, 1): (1, -1), ("pair",): (2, -1), ("work", "plus"): (2, -1), ("call",): (2, -1), ("show",): (1, 0),
        }
        for row, (least, change) in needs.items():
            for many in range(4):
                with self.subTest(row=row, many=many):
                    rows = (ONE,) * many + (row,)
                    height = many + change
                    code = self.ends(rows, max(height, 0))
                    self.assertIs(fits(code), many >= least)
                    if many >= least:
                        self.assertEqual(heights(code)[0][:many + 2], [*range(many + 1), height])
                        self.assertEqual(ways(code), [1, 1, 1])
                    else:
                        self.assertRaises(Misfit, heights, code)

    def test_rows_of_bodies(self):
        for row in (("held", 0), ("self",), ("slot", 0)):
            code = in_body(row, RETURN)
            self.assertEqual((fits(code), heights(code)[1]), (True, [0, 1]))
            self.assertIs(fits(in_body(row)), False)
            self.assertIs(fits(in_body(ONE, row, RETURN)), False)

    def test_just_heights(self):
        for many in range(4):
            self.assertIs(fits(code_of(*[ONE] * many, LAST)), many == 2)
            self.assertIs(fits(code_of(*[ONE] * many, RETURN)), many == 1)
            code = code_of(*[ONE] * many, ("keeplast", 0), *ENDS[many])
            self.assertIs(fits(code), many == 0)

    def test_slots(self):
        for row, height in ((("slot", 1), 1), (("drop", 1), 0), (("fun", 2, (("slot", 1),)), 1),
                            (("def", 2, (("slot", 1),), 0), 0)):
            with self.subTest(row=row):
                ahead = (ONE, ("let", 1))
                self.assertIs(fits(self.ends((*ahead, row), height)), True)
                self.assertIs(fits(self.ends((row,), height)), False)
                self.assertIs(fits(self.ends((ONE, ("let", 0), row), height)), False)
                self.assertIs(fits(self.ends((*ahead, ("drop", 1), row), height)), False)
        both = ((0, 4, (("fun", 1, (("slot", 0), ("slot", 1))), RETURN)), (2, 1, (ONE, RETURN)))
        for known in ([], [0], [1], [0, 1]):
            rows = [row for i in known for row in (ONE, ("let", i))]
            self.assertIs(fits(((0, 4, (*rows, *both[0][2])), both[1])), known == [0, 1])

    def test_what_sets_slots(self):
        setting = {
            (ONE, ("let", 2)): (2,), (ONE, ("open", 3, 1)): (1, 3), (("def", 1, (), 2),): (2,), (("keeplast", 3),): (3,),
            (ONE, ("let", 2), ONE, ("let", 2)): (2,), (ONE, ("open", 1, 2), ("drop", 1)): (2,),
        }
        for rows, found in setting.items():
            code = code_of(*rows, ONE, RETURN)
            self.assertEqual((sets(code)[0][-2], sets(code)[0][0]), (found, ()))

    def test_a_def_does_not_reach_itself(self):
        self.assertIs(fits(code_of(("def", 2, (("slot", 1),), 1), ONE, RETURN)), False)

    def test_keep(self):
        code = code_of(ONE, ("keep", 2, 4), ("slot", 2), RETURN, ("pair",), RETURN)
        self.assertEqual(heights(code)[0], [0, 1, 0, 1, 2, 1])
        self.assertEqual(sets(code)[0], [(), (), (2,), (2,), (), ()])
        self.assertEqual(ways(code)[0], 2)
        for many in range(3):
            self.assertIs(fits(code_of(ONE, ("keep", 2, 3 + many), *[ONE] * many, RETURN, ("pair",), RETURN)), many == 1)
            self.assertIs(fits(code_of(*[ONE] * many, ("keep", 2, many + 3), ONE, RETURN, ("pair",), RETURN)), many == 1)
        self.assertIs(fits(code_of(("keep", 2, 3), ONE, RETURN, ("slot", 2), ("pair",), RETURN)), False)

    def test_both_ways_of_a_keep_come_to_one_place(self):
        self.assertIs(fits(code_of(("keep", 0, 1), ONE, RETURN)), False)
        self.assertIs(fits(code_of(("keep", 0, 2), ONE, RETURN)), True)
        self.assertEqual(heights(code_of(("keep", 0, 2), ONE, RETURN))[0], [0, 0, 1])

    def test_beyond_the_last_place(self):
        for rows in ((ONE,), (ONE, ("let", 0)), (("keeplast", 0),), (ONE, ("show",)), (ONE, ONE, ("call",)),
                     (("def", 1, (), 0),), (ONE, ("let", 0), ("drop", 0))):
            self.assertIs(fits(code_of(*rows)), False)


class WaysTest(unittest.TestCase):
    def test_a_slot_that_is_set_on_one_way_only(self):
        for row in (("slot", 0), ("drop", 0), ("fun", 2, (("slot", 0),))):
            end = ENDS[0] if row[0] == "drop" else ENDS[1]
            both = code_of(ONE, ("choose", 5), ONE, ("let", 0), ("go", 7), ONE, ("let", 0), row, *end)
            one = code_of(ONE, ("choose", 5), ONE, ("let", 0), ("go", 7), ONE, ("let", 1), row, *end)
            none = code_of(ONE, ("choose", 4), ONE, ("let", 0), row, *end)
            self.assertEqual([fits(both), fits(one), fits(none)], [True, False, False])
        both = code_of(ONE, ("choose", 5), ONE, ("open", 0, 1), ("go", 7), ONE, ("open", 1, 2), ONE, RETURN)
        self.assertEqual(sets(both)[0][7], (1,))

    def test_a_slot_that_is_dropped_on_one_way_only(self):
        code = code_of(ONE, ("let", 0), ONE, ("choose", 5), ("drop", 0), ONE, RETURN)
        self.assertEqual((sets(code)[0][5], sets(code)[0][4], ways(code)[0]), ((), (0,), 2))
        self.assertIs(fits(code_of(ONE, ("let", 0), ONE, ("choose", 5), ("drop", 0), ("slot", 0), RETURN)), False)
        self.assertIs(fits(code_of(ONE, ("let", 0), ONE, ("choose", 5), ("drop", 0), ("drop", 0), ONE, RETURN)), False)

    def test_heights_that_differ(self):
        self.assertIs(fits(code_of(ONE, ("choose", 3), ONE, ONE, RETURN)), False)
        self.assertIs(fits(code_of(ONE, ("choose", 4), ONE, ("go", 5), ONE, RETURN)), True)
        self.assertIs(fits(code_of(ONE, ("choose", 3), ONE, ("keeplast", 0), ONE, RETURN)), False)

    def test_the_very_last_place(self):
        code = code_of(ONE, ("go", 3), RETURN, RETURN)
        self.assertEqual((fits(code), heights(code)[0], ways(code)[0]), (True, [0, 1, None, 1], 1))
        code = code_of(ONE, ONE, ("choose", 4), RETURN, RETURN)
        self.assertEqual((fits(code), heights(code)[0], ways(code)[0]), (True, [0, 1, 2, 1, 1], 2))
        self.assertIs(fits(code_of(ONE, ("go", 2), ONE)), False)
        self.assertIs(fits(code_of(("keep", 0, 3), ONE, RETURN, RETURN)), True)

    def test_no_way_comes(self):
        code = code_of(ONE, RETURN, ("slot", 3), ("pair",), ("drop", 0), ("last",), ("choose", 7), ("keep", 0, 8), ("let", 0))
        self.assertIs(fits(code), True)
        self.assertEqual(heights(code)[0], [0, 1] + [None] * 7)
        self.assertEqual(sets(code)[0], [(), ()] + [None] * 7)
        self.assertEqual(ways(code)[0], 1)
        # Of two ways to a place only the one that is met counts.
        code = code_of(ONE, ("go", 4), ONE, ("go", 5), ("show",), RETURN)
        self.assertEqual((fits(code), heights(code)[0]), (True, [0, 1, None, None, 1, 1]))

    def test_a_choose_both_of_whose_ways_are_one_place(self):
        code = code_of(ONE, ("choose", 2), ONE, RETURN)
        self.assertEqual((fits(code), ways(code)[0]), (True, 2))

    def test_many_forks(self):
        forks = []
        for at in range(300):
            forks += [ONE, ("choose", 5 * at + 4), ("def", 1, (), 0), ("go", 5 * at + 5), ("def", 1, (), 0)]
        code = code_of(*forks, ("slot", 0), RETURN)
        self.assertEqual((fits(code), ways(code)), (True, [2 ** 300, 1, 1]))
        self.assertEqual((heights(code)[0][1500:], sets(code)[0][1500]), ([0, 1], (0,)))
        forks[1499] = ("def", 1, (), 1)
        self.assertIs(fits(code_of(*forks, ("slot", 1), RETURN)), False)
        self.assertIs(fits(code_of(*forks, ("slot", 0), RETURN)), True)
        self.assertEqual(ways(code_of(*forks[:1498], ("go", 1499), ("def", 1, (), 1), ("slot", 0), RETURN))[0], 2 ** 300)

    def test_several_blocks(self):
        good, bad = (0, 1, (("slot", 0), RETURN)), (0, 1, (("slot", 0), LAST))
        for blocks in ((good, good), (good, bad), (bad, good), (bad, bad)):
            code = ((0, 0, (ONE, RETURN)), *blocks)
            self.assertIs(fits(code), bad not in blocks)
            if bad in blocks:
                for told in (ways, heights, sets):
                    self.assertRaises(Misfit, told, code)
        self.assertIs(fits(((0, 0, (RETURN,)), good)), False)

    def test_each_way_of_small_codes(self):
        codes = changed_codes(520, 500, lambda code: True) + random_codes(521, 200) + CODES_OF_NONE + CODES_OF_PROGRAMS
        right = 0
        for code in codes:
            walked = [Ways(code, at) for at in range(len(code))]
            fit = all(block.fit for block in walked)
            right += fit
            self.assertIs(fits(code), fit)
            if fit:
                self.assertEqual(ways(code), [block.many for block in walked])
                self.assertEqual(heights(code), [block.heights() for block in walked])
                self.assertEqual(sets(code), [block.sets() for block in walked])
                for block in walked:
                    self.assertTrue(all(len({height for height, _ in met}) < 2 for met in block.met))
            else:
                for told in (ways, heights, sets):
                    self.assertRaises(Misfit, told, code)
        self.assertTrue(300 < right < len(codes) - 200)


class RefusedTest(unittest.TestCase):
    def test_no_code(self):
        for value in [*ODD, list(EXAMPLE), ((0, 0, (("slot", 0), RETURN)),), ((1, 1, (ONE, RETURN)),)]:
            for told in (fits, ways, heights, sets):
                with self.subTest(value=repr(value)[:60]):
                    self.assertRaises(BadCode, told, value)

    def test_bad_code_comes_ahead_of_a_misfit(self):
        bad = ((0, 1, (("slot", 0), ("slot", 1))),)
        for told in (fits, ways, heights, sets):
            self.assertRaises(BadCode, told, bad)


if __name__ == "__main__":
    unittest.main()
