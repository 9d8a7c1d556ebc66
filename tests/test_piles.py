"""Promises 41 to 45: the four piles, deed by deed."""

import random
import unittest

from returnsdue.errors import BadDues, BadFrame, BadMark, Gone
from returnsdue.piles import Copied, Led, Shared, Split
from tests.values import NO_WHOLES, ODD, Awkward

WORDS = ("push", "pop", "kept", "enter")


def four(dues):
    return [Copied(), Shared(), Split(), Led(dues)]


def many(number=50):
    return [50] * number


class PlainPile:
    """The present frames and those of the marks as plain rows; it counts what each kind copies."""

    def __init__(self):
        self.rows = []
        self.marks = []
        self.frames = []
        self.given = {}
        self.copied = 0
        self.split = 0

    def push(self, frame):
        self.frames.append(frame)
        self.rows.append(len(self.frames) - 1)
        return len(self.frames) - 1

    def pop(self):
        if not self.rows:
            return None
        birth = self.rows.pop()
        self.given[birth] = self.given.get(birth, 0) + 1
        self.split += any(birth in row for row in self.marks)
        return self.frames[birth]

    def kept(self):
        self.marks.append(list(self.rows))
        self.copied += len(self.rows)
        return len(self.marks) - 1

    def enter(self, mark):
        self.rows = list(self.marks[mark])
        self.copied += len(self.rows)


def random_deeds(seed, length):
    """A row of deeds, each a word and what it is done with."""
    r = random.Random(seed)
    marks = 0
    deeds = []
    for at in range(length):
        word = r.choice(("push", "push", "push", "pop", "pop", "kept", "enter"))
        if word == "enter" and not marks:
            word = "push"
        marks += word == "kept"
        deeds.append((word, {"push": [("frame", at)], "enter": [r.randrange(marks or 1)]}.get(word, [])))
    return deeds


class DeedsTest(unittest.TestCase):
    def test_all_four_tell_the_same(self):
        for seed in range(60):
            deeds = random_deeds(seed, 60)
            plain = PlainPile()
            told = [getattr(plain, word)(*given) for word, given in deeds]
            dues = [plain.given.get(birth, 0) for birth in range(len(plain.frames))]
            for pile in four(dues):
                self.assertEqual(self.led(pile, deeds), told)

    def led(self, pile, deeds):
        """What the deeds return; on the way the pile is held to the plain one."""
        plain = PlainPile()
        left = list(pile.remaining) if isinstance(pile, Led) else []
        told = []
        for word, given in deeds:
            told.append(getattr(pile, word)(*given))
            before = list(plain.rows)
            getattr(plain, word)(*given)
            if word == "pop" and before and left:
                left[before[-1]] -= 1
            self.assertEqual(pile.births(), plain.rows[::-1])
            self.assertEqual((pile.size(), pile.top()), (len(plain.rows), plain.rows[-1] if plain.rows else None))
            for mark, row in enumerate(plain.marks):
                self.assertEqual(pile.marked(mark), row[::-1])
            self.check_held(pile, plain, left)
        return told

    def check_held(self, pile, plain, left):
        everywhere = [birth for row in [plain.rows, *plain.marks] for birth in row]
        if isinstance(pile, Copied):
            wanted, copied = sorted(everywhere), plain.copied
        elif isinstance(pile, Led):
            wanted = [birth for birth in range(len(plain.frames)) if left[birth] > 0]
            copied = sum(given - (left[birth] == 0) for birth, given in plain.given.items())
        else:
            wanted = sorted(set(everywhere))
            copied = plain.split if isinstance(pile, Split) else 0
        self.assertEqual(pile.held(), wanted)
        self.assertEqual(pile.copied, copied)
        for birth in range(len(plain.frames) + 1):
            self.assertEqual(pile.frame(birth), plain.frames[birth] if birth in wanted else None)

    def test_led_copies_least(self):
        for seed in range(60, 120):
            deeds = random_deeds(seed, 80)
            plain = PlainPile()
            for word, given in deeds:
                getattr(plain, word)(*given)
            dues = [plain.given.get(birth, 0) for birth in range(len(plain.frames))]
            piles = four(dues)
            for pile in piles:
                for word, given in deeds:
                    getattr(pile, word)(*given)
            copied, shared, split, led = [pile.copied for pile in piles]
            self.assertEqual(led, sum(given - 1 for given in plain.given.values()))
            self.assertEqual(shared, 0)
            self.assertTrue(led <= split <= copied)
            self.assertEqual(piles[3].held(), [])
            self.assertEqual(piles[1].held(), piles[2].held())


class ByHandTest(unittest.TestCase):
    def test_empty(self):
        for pile in four([]):
            self.assertEqual((pile.top(), pile.pop(), pile.size(), pile.births(), pile.held(), pile.copied),
                             (None, None, 0, [], [], 0))
            self.assertIsNone(pile.frame(0))
            self.assertEqual(pile.kept(), 0)
            self.assertEqual(pile.marked(0), [])
            self.assertIsNone(pile.enter(0))

    def test_copied(self):
        pile = Copied()
        self.assertEqual([pile.push("a"), pile.push("b")], [0, 1])
        self.assertEqual((pile.kept(), pile.copied, pile.held()), (0, 2, [0, 0, 1, 1]))
        self.assertEqual((pile.pop(), pile.copied, pile.held()), ("b", 2, [0, 0, 1]))
        pile.enter(0)
        self.assertEqual((pile.births(), pile.copied, pile.held()), ([1, 0], 4, [0, 0, 1, 1]))
        self.assertEqual((pile.kept(), pile.copied, pile.marked(1)), (1, 6, [1, 0]))

    def test_shared(self):
        pile = Shared()
        pile.push("a")
        pile.push("b")
        pile.kept()
        self.assertEqual((pile.pop(), pile.pop(), pile.pop(), pile.held()), ("b", "a", None, [0, 1]))
        pile.push("c")
        self.assertEqual((pile.births(), pile.held()), ([2], [0, 1, 2]))
        pile.enter(0)
        self.assertEqual((pile.births(), pile.held(), pile.frame(2), pile.copied), ([1, 0], [0, 1], None, 0))

    def test_split(self):
        pile = Split()
        pile.push("a")
        pile.kept()
        pile.push("b")
        self.assertEqual((pile.pop(), pile.copied), ("b", 0))
        self.assertEqual((pile.pop(), pile.copied, pile.held(), pile.size()), ("a", 1, [0], 0))
        pile.enter(0)
        self.assertEqual((pile.pop(), pile.copied, pile.frame(0), pile.frame(1)), ("a", 2, "a", None))
        pile.push("c")
        pile.push("d")
        self.assertEqual((pile.kept(), pile.held(), pile.marked(1), pile.copied), (1, [0, 2, 3], [3, 2], 2))

    def test_led(self):
        pile = Led([2, 0, 1])
        self.assertEqual([pile.push(frame) for frame in "abcd"], [0, 1, 2, 3])
        self.assertEqual((pile.held(), pile.top(), pile.size(), pile.births()), ([0, 2], 3, 4, [3, 2, 1, 0]))
        with self.assertRaises(Gone) as caught:
            pile.pop()
        self.assertEqual((caught.exception.word, caught.exception.birth), ("frame", 3))
        self.assertEqual((pile.held(), pile.births(), pile.copied), ([0, 2], [3, 2, 1, 0], 0))
        self.assertEqual([pile.frame(birth) for birth in range(5)], ["a", None, "c", None, None])

    def test_led_with_dues_too_short_just_right_and_too_many(self):
        for dues, copied, held in (([2], 1, []), ([3], 2, [0]), ([2, 5], 1, []), ((2,), 1, [])):
            pile = Led(dues)
            pile.push("a")
            pile.kept()
            self.assertEqual(pile.pop(), "a")
            pile.enter(0)
            self.assertEqual((pile.pop(), pile.copied, pile.held()), ("a", copied, held))
        for dues in ([], [0], [1]):
            pile = Led(dues)
            pile.push("a")
            pile.kept()
            if dues == [1]:
                self.assertEqual((pile.held(), pile.pop(), pile.held(), pile.copied), ([0], "a", [], 0))
                pile.enter(0)
            for _ in range(2):
                self.assertRaises(Gone, pile.pop)
                self.assertEqual((pile.births(), pile.held(), pile.top(), pile.copied), ([0], [], 0, 0))
        self.assertIsNone(Led([]).pop())

    def test_dues_are_copied(self):
        dues = [1, 1]
        pile = Led(dues)
        dues[0] = 0
        pile.push("a")
        self.assertEqual((pile.pop(), dues), ("a", [0, 1]))

    def test_bad_dues(self):
        for dues in (None, 1, "1", {}, {1: 1}, [True], [False], [-1], [1, None], ["1"], [[1]], (1, -1), Copied()):
            with self.subTest(dues=repr(dues)):
                self.assertRaises(BadDues, Led, dues)
        self.assertEqual(Led(dues=[10 ** 29]).held(), [])


class EachKindTest(unittest.TestCase):
    def test_frames_are_any_values_but_none(self):
        for pile in four(many()):
            for at, frame in enumerate((False, 0, "", (), [], {}, True, [None])):
                self.assertEqual((pile.push(frame), pile.frame(at), pile.top()), (at, frame, at))
                self.assertIs(pile.frame(at), frame)
            pile.kept()
            self.assertRaises(BadFrame, pile.push, None)
            self.assertEqual((pile.size(), pile.top()), (8, 7))
            self.assertEqual([pile.pop() for _ in range(9)], [[None], True, {}, [], (), "", 0, False, None])
            self.assertEqual(pile.push(frame="next"), 8)

    def test_nobody_looks_into_a_frame(self):
        for pile in four(many()):
            frame = Awkward()
            pile.push(frame)
            pile.kept()
            self.assertIs(pile.frame(0), frame)
            self.assertIs(pile.pop(), frame)
            pile.enter(0)
            self.assertIs(pile.pop(), frame)

    def test_marks(self):
        for pile in four(many()):
            self.assertRaises(BadMark, pile.enter, 0)
            pile.push("a")
            self.assertEqual([pile.kept(), pile.kept()], [0, 1])
            for mark in [*NO_WHOLES, -1, 2, 10 ** 20]:
                self.assertRaises(BadMark, pile.enter, mark)
                self.assertRaises(BadMark, pile.marked, mark)
            self.assertEqual(pile.marked(mark=1), [0])
            self.assertIsNone(pile.enter(mark=1))
            self.assertEqual(pile.births(), [0])

    def test_frame_of_any_value(self):
        for pile in four(many()):
            pile.push("a")
            pile.push("b")
            for value in ODD * 2:
                if not isinstance(value, int) or isinstance(value, bool):
                    self.assertIsNone(pile.frame(value))
                else:
                    pile.kept()
            self.assertEqual((pile.frame(birth=0), pile.frame(1), pile.frame(2), pile.frame(-1)), ("a", "b", None, None))

    def test_lists_told_are_new(self):
        for pile in four(many()):
            pile.push("a")
            pile.kept()
            for told in (pile.births(), pile.held(), pile.marked(0)):
                told.append(7)
                told.clear()
            self.assertEqual((pile.births(), pile.marked(0), set(pile.held())), ([0], [0], {0}))

    def test_piles_are_told_apart(self):
        for one in four([]):
            for other in (0, None, (), [], Copied(), Shared(), Split(), Led([])):
                self.assertFalse(one == other)
            with self.assertRaises(TypeError):
                iter(one)
            self.assertEqual(one.copied, 0)

    def test_births_go_on(self):
        for pile in four(many()):
            self.assertEqual((pile.push("a"), pile.pop(), pile.push("b")), (0, "a", 1))
            mark = pile.kept()
            pile.push("c")
            pile.enter(mark)
            self.assertEqual((pile.push("d"), pile.births()), (3, [3, 1]))

    def test_many_frames(self):
        for pile in four(many(5000)):
            for at in range(5000):
                pile.push(at)
            pile.kept()
            self.assertEqual((pile.size(), pile.births()[0], pile.marked(0)[-1]), (5000, 4999, 0))
            self.assertEqual([pile.pop() for _ in range(5000)], list(range(5000))[::-1])


if __name__ == "__main__":
    unittest.main()
