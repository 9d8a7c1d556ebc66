"""Promise 34: the lines of a bill in the order of time, and the returns that it tells for the frames."""

import unittest

from returnsdue.ahead import tallies
from returnsdue.billing import bill
from returnsdue.errors import BadProgram, NoBill, TooMany
from returnsdue.judging import is_bill, lines, many
from returnsdue.ledger import Ledger
from returnsdue.running import state, steps
from returnsdue.stepper import Runner, Trail
from returnsdue.terms import is_program
from returnsdue.walking import dues, in_time
from tests.programs import (
    BY_HAND, ENDLESS, ENTERED, IDENTITY, STUCK, TWICE, call, chained, counted_down, loop, name, number, random_programs,
    returning_programs, summed, variants)
from tests.reference import at_path
from tests.test_followbills import billed
from tests.values import ODD

FIVE = number(5)
BILLED = billed(BY_HAND + [chained(57), summed(20), loop(12, name("v")), loop(12, ("pair", name("v"), name("p")))]
                + random_programs(34, 200, is_program) + returning_programs(34, 150, is_program))
FIRST = {"let": 2, "open": 1, "choose": 1, "show": 1, "call": 1, "work": 2, "pair": 1}
KINDS_OF_ROWS = {"call": "call2", "enter": "call2", "work": "work2", "hold": "pair2", "let": "let", "open": "open",
                 "choose": "choose", "show": "show"}


def lines_within(e, tree, place=(), path=()):
    """All lines of a tree, each with the path of its node: pairs of a line and a path, in no order of time."""
    word = tree[0]
    if word == "name":
        return [(("look", place, 0), path)]
    if word == "number":
        return [(("hold", place, 0), path)]
    if word in ("fun", "def"):
        at = 2 if word == "fun" else 3
        found = [(("hold" if word == "fun" else "def", place, 0), path)]
        for index, kid in enumerate(tree[1]):
            if kid is not None:
                found += lines_within(e[at], kid, (*place, 1, index), (*path, at))
        return found + (lines_within(e[4], tree[2], (*place, 2), (*path, 4)) if word == "def" else [])
    if word == "keep":
        return [(("keep", place, 0), path)] + lines_within(e[2], tree[2], (*place, 2), (*path, 2))
    first = FIRST[word]
    found = lines_within(e[first], tree[1], (*place, 1), (*path, first))
    for index, row in enumerate(tree[2]):
        here = (*place, 2, index)
        if word == "show":
            found.append((("show", here, 0), path))
        elif word in ("let", "open", "choose"):
            found.append(((word, here, 0), path))
            at = {"let": 3, "open": 4}.get(word) or (2 if row[0] != 0 else 3)
            inner, where = (row[1], (*here, 1)) if word == "choose" else (row, here)
            found += lines_within(e[at], inner, where, (*path, at))
        elif word == "pair":
            found += [(("hold", here, which + 1), path) for which in range(many(row))]
            found += lines_within(e[2], row, here, (*path, 2))
        else:
            for which, act in enumerate(row[1]):
                kind = "work" if word == "work" else {"called": "call", "entered": "enter"}[act[0]]
                found.append(((kind, (*here, 1, which), 0), path))
            second = 3 if word == "work" else 2
            found += lines_within(e[second], row[0], (*here, 0), (*path, second))
    return found


def node_place(line):
    """The place of the tree whose first, or for the second frame whose row, the frame of a line waits for."""
    kind, place, n = line
    if kind in ("call", "enter", "work"):
        return place[:-2]
    if kind == "hold":
        return place
    return place[:-2]


class InTimeTest(unittest.TestCase):
    def test_by_hand(self):
        value = bill(ENTERED)
        self.assertEqual(in_time(ENTERED, value), (
            ("keep", (), 0), ("look", (2, 1), 0), ("hold", (2, 2, 0, 0), 0), ("enter", (2, 2, 0, 1, 0), 0)))
        self.assertEqual(in_time(FIVE, bill(FIVE)), (("hold", (), 0),))
        program = ("pair", number(1), number(2))
        self.assertEqual(in_time(program, bill(program)), (("hold", (1,), 0), ("hold", (2, 0), 0), ("hold", (2, 0), 1)))
        program = ("show", ("work", "plus", number(1), ("choose", number(0), number(2), number(3))))
        self.assertEqual(in_time(value=bill(program), program=program), (
            ("hold", (1, 1), 0), ("hold", (1, 2, 0, 0, 1), 0), ("choose", (1, 2, 0, 0, 2, 0), 0), ("hold", (1, 2, 0, 0, 2, 0, 1), 0),
            ("work", (1, 2, 0, 1, 0), 0), ("show", (2, 0), 0)))
        program = call(IDENTITY, FIVE)
        self.assertEqual(in_time(program, bill(program)), (
            ("hold", (1,), 0), ("hold", (2, 0, 0), 0), ("call", (2, 0, 1, 0), 0), ("look", (1, 1, 0), 0)))
        program = ("def", "y", "x", ("choose", name("x"), call(name("y"), number(0)), number(4)), call(name("y"), number(1)))
        self.assertEqual(in_time(program, bill(program))[:8], (
            ("def", (), 0), ("look", (2, 1), 0), ("hold", (2, 2, 0, 0), 0), ("call", (2, 2, 0, 1, 0), 0), ("look", (1, 0, 1), 0),
            ("choose", (1, 0, 2, 0), 0), ("look", (1, 0, 2, 0, 1, 1), 0), ("hold", (1, 0, 2, 0, 1, 2, 0, 0), 0)))

    def test_a_part_that_returns_twice(self):
        # The row of the second return is behind the first one; its lines are done in the second round.
        value = bill(TWICE)
        found = in_time(TWICE, value)
        self.assertEqual([line[1] for line in found if line[0] == "open"], [(2, 0), (2, 1)])
        self.assertEqual(found[13], ("enter", (2, 0, 2, 0, 1, 2, 0, 1, 0), 0))

    def test_each_line_once_at_its_step(self):
        for program, value in BILLED:
            found = in_time(program, value)
            wanted = dict(lines_within(program, value[1]))
            self.assertEqual(sorted(found), sorted(wanted))
            self.assertEqual(tuple(kind for kind, _, _ in found), steps(program, 400))
            self.assertEqual({kind: [line[0] for line in found].count(kind) for kind in lines(value[1])}, lines(value[1]))

    def test_lines_and_states(self):
        """The node of each step is that of its line, the wholes of the line are those that are given then, and the
        frame that takes a worth is the same for all rows of one tree, and another one for each tree."""
        for program, value in BILLED[::2]:
            paths = dict(lines_within(program, value[1]))
            births = {}
            for moment, line in enumerate(in_time(program, value)):
                control, top, frames, things, _ = state(program, moment)
                kind, place, n = line
                if control[0] == "at":
                    self.assertEqual((control[1], n), (paths[line], 0))
                    continue
                row_kind, path, _, held, _ = frames[top]
                self.assertEqual((path, row_kind), (paths[line], KINDS_OF_ROWS[kind]))
                births.setdefault((node_place(line), kind == "hold"), set()).add(top)
                told = value[1]
                for at in place:
                    told = told[at]
                if kind == "work":
                    self.assertEqual(told, (held[1], control[1][1]))
                elif kind == "show":
                    self.assertEqual(told, control[1][1])
                elif kind == "choose":
                    self.assertEqual(told[0], control[1][1])
            self.assertTrue(all(len(found) == 1 for found in births.values()))
            taken = [birth for found in births.values() for birth in found]
            self.assertEqual(len(taken), len(set(taken)))
            self.check_dues(program, value, births)

    def check_dues(self, program, value, births):
        """What a frame waits for returns as often as dues tells of it."""
        due = dues(program, value)
        for (place, _), found in births.items():
            told = value[1]
            for at in place:
                told = told[at]
            birth, = found
            if isinstance(told[0], str):
                # A node, whose first tree it is; or the tree of a pair's row itself.
                is_row = len(place) > 1 and place[-2] == 2 and self.is_pair_row(value[1], place)
                self.assertEqual(due[birth], many(told if is_row and births.get((place, True)) == found else told[1]))
            else:
                self.assertEqual(due[birth], many(told[0]))

    @staticmethod
    def is_pair_row(tree, place):
        for at in place[:-2]:
            tree = tree[at]
        return tree[0] == "pair"

    def test_lines_of_a_tree_come_in_its_order(self):
        """What a row leads to comes behind the row; what a keep or def leads to behind its own line."""
        for program, value in BILLED:
            at = {line[:2]: index for index, line in reversed(list(enumerate(in_time(program, value))))}
            for (kind, place), index in at.items():
                if kind in ("keep", "def", "let", "open", "choose"):
                    inner = [other for (_, where), other in at.items() if where[:len(place)] == place and where != place]
                    self.assertTrue(all(other > index for other in inner))

    def test_long_bills(self):
        for program in (counted_down(300, number(1)), summed(100)):
            self.assertRaises(TooMany, bill, program)
            runner = Runner(program, Trail())
            while runner.step():
                pass
            value = (runner.ended, Ledger(runner).trees[0].value)
            self.assertTrue(is_bill(program, value))
            found = in_time(program, value)
            self.assertEqual(tuple(kind for kind, _, _ in found), tuple(runner.kinds))
            self.assertEqual(sorted(found), sorted(dict(lines_within(program, value[1]))))
            returned = [0] * len(runner.frames)
            for _, birth in runner.trail.taken:
                returned[birth] += 1
            self.assertEqual(dues(program, value), tuple(returned))


class DuesTest(unittest.TestCase):
    def test_by_hand(self):
        self.assertEqual(dues(ENTERED, bill(ENTERED)), (1, 1))
        self.assertEqual(dues(value=bill(TWICE), program=TWICE), (2,) + (1,) * 12)
        self.assertEqual(dues(FIVE, bill(FIVE)), ())
        program = ("keep", "k", ("let", "a", call(name("k"), number(1)), number(2)))
        self.assertEqual(dues(program, bill(program)), (0, 1, 1))

    def test_tallies(self):
        seen = set()
        for program, value in BILLED:
            found = dues(program, value)
            self.assertEqual(found, tuple(n for _, _, n in tallies(program)[0]))
            seen.update(found)
        self.assertTrue({0, 1, 2, 3} <= seen)


class RefusedTest(unittest.TestCase):
    def test_refused(self):
        for told in (in_time, dues):
            for value in ODD:
                self.assertRaises(BadProgram, told, value, None)
                self.assertRaises(NoBill, told, ENTERED, value)
            for program in (STUCK, ENDLESS, TWICE, number(6)):
                self.assertRaises(NoBill, told, program, bill(FIVE))
            self.assertRaises(NoBill, told, ENTERED, bill(ENTERED)[1])
            for other in variants(bill(ENTERED)):
                if not is_bill(ENTERED, other):
                    self.assertRaises(NoBill, told, ENTERED, other)


if __name__ == "__main__":
    unittest.main()
