"""Promise 102: tellings packed into texts, and unpacked."""

import random
import re
import unittest

from returnsdue.billing import bill
from returnsdue.errors import BadRow, BadTelling, TooMany
from returnsdue.packing import packed, unpacked
from returnsdue.piles import Copied
from returnsdue.running import steps
from returnsdue.terms import is_program
from tests.programs import BY_HAND, TWICE, doubling, random_programs

NO_TELLINGS = [
    None, True, 1, "a", [], [()], {}, (True,), (False,), ((), True), ([],), ({},), (("a", [1]),), ("",), ("A",), ("abcdefghi",),
    ("a b",), ("a1",), ("\u00e9",), ("-",), ("#1",), ("1",), ("a\n",), (10 ** 30,), (-10 ** 30,), (((10 ** 30,),),), (1, ("x", None, True)),
    (Copied(),), (b"a",), (1.5,), (((((("kept", "Kept"),),),),),)]
TELLINGS = [
    (), (None,), (0,), (-1,), ("a",), ("abcdefgh",), (10 ** 30 - 1,), (-10 ** 30 + 1,), ((),), ((), ()), (((),), ()), ((), ((),)),
    (("a", ()), (), ("a", ())), (None, "number", 5, (), ("number", 5), ("number", 5)), ("keep", "let", "minus"),
    (((1,), (2,)), ((2,), (1,)), (1,)), tuple(range(-20, 20)), ((((((),),),),),), (None, None, None)]
ITEM = re.compile(r"-|[a-z]{1,8}|-?[1-9][0-9]{0,29}|0|#[1-9][0-9]{0,29}")
BILLS = [bill(program) for program in BY_HAND + random_programs(102, 60, is_program) if len(steps(program, 401)) < 401]


def plain_rows(value):
    """The rows of a tuple, by a walk that is told plainly."""
    ended = []
    rows = []

    def item(told):
        if isinstance(told, tuple):
            return f"#{ended.index(told) + 1}"
        return "-" if told is None else str(told)

    def walk(told):
        for inner in told:
            if isinstance(inner, tuple) and inner not in ended:
                walk(inner)
        ended.append(told)
        rows.append(" ".join(item(inner) for inner in told))

    walk(value)
    return rows


def tuple_of(row, tuples):
    """The tuple of a row behind those of other rows; None if the row may not stand there."""
    items = row.split(" ") if row else []
    if not all(ITEM.fullmatch(item) for item in items):
        return None
    found = []
    for item in items:
        if item[0] == "#" and int(item[1:]) > len(tuples):
            return None
        found.append(tuples[int(item[1:]) - 1] if item[0] == "#" else None if item == "-" else
                     item if item[0].isalpha() else int(item))
    return None if tuple(found) in tuples else tuple(found)


def plain_unpacked(text):
    """The tuple, or how BadRow tells that there is none.

    Rows up to one are a beginning if the tuple of all their tuples has them ahead of its own row.
    """
    rows = text.split("\n")
    tuples = []
    for at, row in enumerate(rows):
        made = tuple_of(row, tuples)
        if made is None:
            return at + 1
        tuples.append(made)
        assert plain_rows(tuple(tuples))[:at + 1] == rows[:at + 1]
    return tuples[-1] if plain_rows(tuples[-1]) == rows else len(rows) + 1


def random_telling(r, row):
    if row == 0 or r.random() < 0.3:
        return r.choice([None, "a", "number", 0, -1, 17, ()])
    return tuple(random_telling(r, row - 1) for _ in range(r.randint(0, 4)))


def random_tuples(seed, many):
    r = random.Random(seed)
    found = [random_telling(r, 5) for _ in range(many)]
    return [value for value in found if isinstance(value, tuple)]


class PackedTest(unittest.TestCase):
    def test_by_hand(self):
        self.assertEqual(packed((("a", ()), (), ("a", ()))), "\na #1\n#2 #1 #2")
        self.assertEqual(packed(()), "")
        self.assertEqual(packed(value=(None, "keep", -3, 0)), "- keep -3 0")
        self.assertEqual(packed((("number", 5), ("number",))), "number 5\nnumber\n#1 #2")
        self.assertEqual(packed((((1,), 2), (1,))), "1\n#1 2\n#2 #1")
        self.assertEqual(packed((0, (0,), (0, (0,)))), "0\n0 #1\n0 #1 #2")

    def test_second_reading_there_and_back(self):
        for value in TELLINGS + random_tuples(1, 300) + [value for value in BILLS if value]:
            text = packed(value)
            self.assertEqual(text, "\n".join(plain_rows(value)))
            self.assertEqual(repr(unpacked(text)), repr(value))
            self.assertEqual(packed(unpacked(text)), text)

    def test_many_and_deep(self):
        deep = ()
        for _ in range(5000):
            deep = (deep, 1)
        text = packed(deep)
        self.assertEqual(text.count("\n"), 5000)
        self.assertEqual(packed(unpacked(text)), text)
        self.assertEqual(unpacked(packed(((),) * 19999)), ((),) * 19999)
        wide = tuple(range(2000))
        self.assertEqual(unpacked(packed(wide)), wide)
        value = None
        many = 1
        while value is None or many < 13:
            try:
                value, many = bill(doubling(many)), many + 1
            except TooMany:
                break
        self.assertEqual(unpacked(packed(value)), value)

    def test_no_tellings(self):
        for value in NO_TELLINGS:
            with self.subTest(value=repr(value)):
                self.assertRaises(BadTelling, packed, value)


class UnpackedTest(unittest.TestCase):
    def refused(self, text, at):
        with self.assertRaises(BadRow) as caught:
            unpacked(text)
        self.assertEqual(caught.exception.at, at)

    def test_by_hand(self):
        self.assertEqual(unpacked(""), ())
        self.assertEqual(unpacked(text="\n#1 #1"), ((), ()))
        self.assertEqual(unpacked("abcdefgh\n-\n#1 #2 - 7"), (("abcdefgh",), (None,), None, 7))
        for text, at in [
                ("abcdefghi", 1), ("-0", 1), ("01", 1), ("-01", 1), ("00", 1), ("#0", 1), ("#01", 1), ("#1", 1), ("#", 1), ("#-1", 1),
                ("a  b", 1), (" a", 1), ("a ", 1), (" ", 1), ("a\tb", 1), ("A", 1), ("+1", 1), ("--", 1), ("--1", 1), ("1.0", 1),
                ("9" * 31, 1), ("-" + "9" * 31, 1), ("1a", 1), ("a1", 1), ("\u0661", 1), ("\u00e9", 1), ("a\r", 1), ("#" + "1" * 31, 1),
                ("a\n#2", 2), ("a\n#3\n#1 #2", 2), ("a\n#9999999999999999999999", 2), ("a\na\n#1 #2", 2), ("\n", 2), ("\n\n", 2),
                ("a\n#1\n", 4), ("a\nb", 3), ("a\nb\n#1", 4), ("a\nb\n#2", 4), ("a\nb\n#2 #1", 4), ("a\nb\n#1\n#2 #3", 5),
                ("a\n#1 b\n#1 #1", 4), ("1\n2\n#1 #2\n#2 #1\n#4 #3", 6), ("1\n2\n#1 #2\n#4 #3", 4), ("a\n#1\n#2\n#1 -\n#3 #1", 6)]:
            with self.subTest(text=text[:40]):
                self.refused(text, at)

    def test_what_is_no_string(self):
        for value in [None, True, 1, (), [], ["a"], ("a",), {}, b"a", Copied()]:
            self.refused(value, None)

    def check(self, text):
        wanted = plain_unpacked(text)
        if isinstance(wanted, tuple):
            self.assertEqual(repr(unpacked(text)), repr(wanted))
            self.assertEqual(packed(wanted), text)
        else:
            self.refused(text, wanted)
        return isinstance(wanted, tuple)

    def test_one_sign_changed(self):
        right = 0
        values = [value for value in BILLS if value and len(packed(value)) < 120][:4] + TELLINGS + random_tuples(2, 16)
        for value in values:
            text = packed(value)
            for at in range(len(text) + 1):
                right += self.check(text[:at])
                if at < len(text):
                    right += self.check(text[:at] + text[at + 1:])
                for sign in "-#012z \n)":
                    right += self.check(text[:at] + sign + text[at:])
                    right += self.check(text[:at] + sign + text[at + 1:])
        self.assertGreater(right, 200)

    def test_rows_changed(self):
        r = random.Random(1020)
        for value in [value for value in BILLS if value and packed(value).count("\n") < 40] + random_tuples(3, 60):
            rows = packed(value).split("\n")
            for _ in range(8):
                at, to = r.randrange(len(rows)), r.randrange(len(rows))
                changed = list(rows)
                changed[at], changed[to] = changed[to], changed[at]
                for other in (changed, rows[:at] + rows[at + 1:], rows[:at] + [rows[to]] + rows[at:], rows[:at]):
                    if other:
                        self.check("\n".join(other))

    def test_bills_with_a_sign_changed_are_no_bills_any_more(self):
        value = bill(TWICE)
        text = packed(value)
        r = random.Random(4)
        for _ in range(400):
            at = r.randrange(len(text))
            sign = r.choice("-#0123456789abcdefghijklmnopqrstuvwxyz \n")
            if sign != text[at]:
                try:
                    self.assertNotEqual(unpacked(text[:at] + sign + text[at + 1:]), value)
                except BadRow as error:
                    self.assertTrue(1 <= error.at <= text.count("\n") + 3)

    def test_what_shares_much_is_unpacked(self):
        # As a telling this has very many tuples; unpacked they are shared.
        rows = [""] + [f"#{at} #{at}" for at in range(1, 60)]
        found = unpacked("\n".join(rows))
        for _ in range(59):
            found = found[1]
        self.assertEqual(found, ())


if __name__ == "__main__":
    unittest.main()
