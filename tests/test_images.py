"""Promise 108: pictures as texts."""

import random
import unittest

from returnsdue.errors import BadImage, BadPicture
from returnsdue.images import image, read_image
from returnsdue.packing import packed
from returnsdue.pictures import is_picture, picture_at, without
from returnsdue.running import steps
from tests.programs import ENTERED, TWICE, call, name, number, summed
from tests.test_packing import plain_unpacked
from tests.test_pictures import PROGRAMS, gone_from, moments_of
from tests.values import ODD

KINDS = ["call1", "call2", "choose", "let", "open", "pair1", "pair2", "show", "work1", "work2"]


def plain_tuple(picture):
    """The tuple of whose packed text an image is."""
    program, moment, born, (control, top, frames, things, shown) = picture
    ones = tuple((birth, KINDS.index(row[0]), row[1], row[2], row[3], row[4]) for birth, row in sorted(frames.items()))
    others = tuple((birth,) + row for birth, row in sorted(things.items()))
    return (program, moment, born, control, top, ones, others, shown)


def packed_shared(value):
    """The packed text of a tuple in which tuples are shared so much that they cannot be gone through one by one."""
    numbers, rows, met = {}, [], {}

    def number_of(told):
        if id(told) not in met:
            row = " ".join("-" if item is None else "#" + str(number_of(item)) if isinstance(item, tuple) else str(item) for item in told)
            if row not in numbers:
                rows.append(row)
                numbers[row] = len(rows)
            met[id(told)] = numbers[row]
        return met[id(told)]

    number_of(value)
    return "\n".join(rows)


class ImageTest(unittest.TestCase):
    def test_by_hand(self):
        picture = picture_at(number(5), 0)
        self.assertEqual(packed((number(5), 0, (0, 0), ("at", (), ()), None, (), (), ())), "number 5\n0 0\n\nat #3 #3\n#1 0 #2 #4 - #3 #3 #3")
        self.assertEqual(image(picture=picture), "number 5\n0 0\n\nat #3 #3\n#1 0 #2 #4 - #3 #3 #3")
        self.assertEqual(read_image(text=image(picture)), picture)
        program = ("show", ("work", "plus", number(1), number(2)))
        self.assertEqual(image(picture_at(program, 1)), packed((
            program, 1, (3, 0), ("at", (1, 3), ()), 2, ((0, 7, (), (), None, None), (2, 9, (1,), (), number(1), 0)), (), ())))

    def test_there_and_back_at_each_moment(self):
        r = random.Random(108)
        for program in PROGRAMS:
            for moment in range(0, len(steps(program, 40)) + 1, 2):
                whole = picture_at(program, moment)
                for picture in (whole, gone_from(r, whole, 0.4)):
                    text = image(picture)
                    self.assertEqual(text, packed(plain_tuple(picture)))
                    found = read_image(text)
                    self.assertEqual(found, picture)
                    self.assertEqual([list(rows) for rows in found[3][2:4]], [sorted(rows) for rows in found[3][2:4]])
                    self.assertEqual(image(found), text)

    def test_keys_turned_about(self):
        picture = picture_at(summed(3), 20)
        _, _, _, (control, top, frames, things, shown) = picture
        turned = (*picture[:3], (control, top, dict(reversed(frames.items())), dict(reversed(things.items())), shown))
        self.assertEqual(image(turned), image(picture))

    def test_refused(self):
        picture = picture_at(TWICE, 8)
        for value in [*ODD, list(picture), picture[:3], (number(5), *picture[1:]), image(picture), plain_tuple(picture)]:
            self.assertRaises(BadPicture, image, value)


class ReadTest(unittest.TestCase):
    def check(self, text):
        """A text is refused, or is that of the picture that comes."""
        try:
            found = read_image(text)
        except BadImage:
            return False
        self.assertTrue(is_picture(found))
        self.assertEqual(image(found), text)
        return True

    def test_one_sign_changed(self):
        r = random.Random(1080)
        right, wrong = 0, 0
        for program in [ENTERED, TWICE, call(("fun", "x", name("x")), number(5)), *PROGRAMS[::6]]:
            for moment in moments_of(r, program, 1):
                text = image(picture_at(program, moment))
                for _ in range(60):
                    at = r.randint(0, len(text))
                    sign = r.choice("-#0123459abcdefkptx \n")
                    for other in (text[:at] + sign + text[at:], text[:at] + sign + text[at + 1:], text[:at] + text[at + 1:], text[:at]):
                        if other != text:
                            if self.check(other):
                                right += 1
                                self.assertNotEqual(read_image(other), picture_at(program, moment))
                            else:
                                wrong += 1
        self.assertTrue(right > 100 and wrong > 5000, (right, wrong))

    def test_rows_changed(self):
        r = random.Random(1081)
        for program in PROGRAMS[::3]:
            for moment in moments_of(r, program, 1):
                rows = image(picture_at(program, moment)).split("\n")
                for _ in range(10):
                    at, to = r.randrange(len(rows)), r.randrange(len(rows))
                    turned = list(rows)
                    turned[at], turned[to] = turned[to], turned[at]
                    for other in (turned, rows[:at] + rows[at + 1:], rows[:at] + [rows[to]] + rows[at:], rows + [rows[at]]):
                        if other != rows:
                            self.check("\n".join(other))

    def test_what_is_read_of_any_tuple(self):
        """Of tuples near that of a picture, those are read of which the text is that of a picture."""
        r = random.Random(1082)
        right = 0
        for program in PROGRAMS[::3]:
            for moment in moments_of(r, program, 1):
                value = plain_tuple(picture_at(program, moment))
                for _ in range(15):
                    at = r.randrange(8)
                    part = r.choice([None, 0, 1, 5, (), (0,), ((),), "at", number(1), ("thing", 0), ("end", ("stuck",)), ("end", ("pair",)),
                                     value[at] + value[at] if isinstance(value[at], tuple) else value[at], value[r.randrange(8)],
                                     value[at][::-1] if isinstance(value[at], tuple) else value[at],
                                     value[at][1:] if isinstance(value[at], tuple) else value[at]])
                    near = value[:at] + (part,) + value[at + 1:]
                    text = packed(near)
                    self.assertEqual(plain_unpacked(text), near)
                    if self.check(text):
                        self.assertEqual(plain_tuple(read_image(text)), near)
                        right += 1
        self.assertGreater(right, 50)

    def test_by_hand(self):
        right = plain_tuple(picture_at(("show", number(5)), 0))
        self.assertEqual(right, (("show", number(5)), 0, (1, 0), ("at", (1,), ()), 0, ((0, 7, (), (), None, None),), (), ()))
        self.assertTrue(self.check(packed(right)))
        for ones in [((0, 10, (), (), None, None),), ((0, -1, (), (), None, None),), ((0, None, (), (), None, None),), ((0, "show", (), (), None, None),),
                     ((0, 6, (), (), None, None),), ((1, 7, (), (), None, None),), ((0, 7, (), (), None),), ((0, 7, (), (), None, None, None),),
                     ((0, 7, (), (), None, None),) * 2, (((), 7, (), (), None, None),), (None,), ((),), 0, None, ((None, 7, (), (), None, None),)]:
            self.assertFalse(self.check(packed((*right[:5], ones, *right[6:]))), ones)
        for others in [((),), (None,), None, 5, ((0, "kept", None),), ((0,),), (((), "kept", None),), ((None, "kept", None),)]:
            self.assertFalse(self.check(packed((*right[:6], others, ()))), others)
        for other in ((), right[:7], right + ((),), (right,), (*right[:7], 5), (*right[:7], None)):
            self.assertFalse(self.check(packed(other)))
        # Rows in another order than that of their births.
        picture = plain_tuple(picture_at(summed(2), 14))
        self.assertGreater(len(picture[5]), 1)
        self.assertTrue(self.check(packed(picture)))
        self.assertFalse(self.check(packed((*picture[:5], picture[5][::-1], *picture[6:]))))

    def test_what_is_no_text_of_a_picture(self):
        for value in [*ODD, "\n", "a", "number 5", picture_at(number(5), 0), b"", " ", "#1", image(picture_at(TWICE, 3)) + "\n"]:
            self.assertRaises(BadImage, read_image, value)
        rows = [""] + [f"#{at} #{at}" for at in range(1, 60)] + ["#60 0 #60 #60 - #60 #60 #60"]
        self.assertRaises(BadImage, read_image, "\n".join(rows))
        # The same in the place of each part of rows, births among them.
        plain = plain_tuple(picture_at(TWICE, 8))
        many = ()
        for _ in range(60):
            many = (many, many)
        for at in range(8):
            for part in (many, (many,), ((many,),), ((many, many, many),), ((many, 5, (), (), None, None),), ((0, many, (), (), None, None),)):
                near = plain[:at] + (part,) + plain[at + 1:]
                self.assertRaises(BadImage, read_image, packed_shared(near))

    def test_with_rows_left_out(self):
        picture = without(picture_at(TWICE, 8), [0], [])
        self.assertEqual(read_image(image(picture)), picture)


if __name__ == "__main__":
    unittest.main()
