"""Promise 51: codes."""

import unittest

from returnsdue.codes import is_code
from tests.values import NO_WHOLES, ODD

RETURN = ("return",)
EXAMPLES = [
    ((0, 1, (("number", 4), ("let", 0), ("slot", 0), RETURN)),),
    ((0, 1, (("number", 4), ("let", 0), ("fun", 1, (("slot", 0),)), ("slot", 0), ("last",))), (1, 1, (("held", 0), RETURN))),
    ((0, 1, (("slot", 0), ("let", 0))),),
]
WORDS = {
    ("self",): 1, ("pair",): 1, ("show",): 1, ("call",): 1, ("last",): 1, RETURN: 1,
}
# Each row with how good and bad ones are made; the block has 3 held, 4 slots and 5 places.
SLOTS = (0, 3)
NO_SLOTS = (-1, 4, True, False, "0", None, (0,), [0])


def with_row(row, at=1, block=1):
    """A code in which the row stands at this place of this block."""
    rows = [RETURN] * 5
    rows[at] = row
    blocks = [(0, 4, (RETURN,) * 5), (3, 4, (RETURN,) * 5), (1, 1, (RETURN,)), (0, 1, (RETURN,))]
    held, slots, _ = blocks[block]
    blocks[block] = (held, slots, tuple(rows))
    return tuple(blocks)


PICKS = (("slot", 0), ("held", 2), ("self",))


class CodesTest(unittest.TestCase):
    def good(self, row, at=1, block=1):
        with self.subTest(row=row, at=at, block=block):
            self.assertIs(is_code(with_row(row, at, block)), True)

    def bad(self, row, at=1, block=1):
        with self.subTest(row=row, at=at, block=block):
            self.assertIs(is_code(with_row(row, at, block)), False)

    def test_examples(self):
        for code in EXAMPLES:
            self.assertIs(is_code(code), True)
            self.assertIs(is_code(value=code), True)
            self.assertIs(is_code(list(code)), False)
            self.assertIs(is_code((list(code[0]), *code[1:])), False)
            self.assertIs(is_code(((*code[0][:2], list(code[0][2])), *code[1:])), False)

    def test_any_value(self):
        for value in ODD:
            self.assertIs(is_code(value), False)
            self.assertIs(is_code((value,)), False)
            self.assertIs(is_code(((0, 1, value),)), value == (("number", 1),))
            self.bad(value)

    def test_plain_rows(self):
        for row in WORDS:
            self.good(row)
            self.bad(list(row))
            self.bad((*row, 0))
            self.bad(row[0])
            if row != ("self",):
                self.good(row, 0, 0)
        self.bad(("self",), 0, 0)
        self.bad(("unknown",))
        self.bad(())

    def test_numbers(self):
        for n in (0, -1, 10 ** 30 - 1, 1 - 10 ** 30):
            self.good(("number", n))
        for n in (10 ** 30, -10 ** 30, True, False, None, "1", (1,)):
            self.bad(("number", n))
        self.bad(("number",))
        self.bad(("number", 1, 1))

    def test_slots(self):
        for word in ("slot", "let", "drop", "keeplast"):
            for i in SLOTS:
                self.good((word, i))
            for i in NO_SLOTS:
                self.bad((word, i))
            self.bad((word,))
            self.bad((word, 0, 0))

    def test_held(self):
        for h in (0, 2):
            self.good(("held", h))
        for h in (-1, 3, True, "0", None):
            self.bad(("held", h))
        self.bad(("held", 0), 0, 0)
        self.good(("held", 0), 0, 2)
        self.bad(("held", 1), 0, 2)

    def test_open(self):
        for i, j in ((0, 1), (3, 0), (2, 3)):
            self.good(("open", i, j))
        for i, j in ((0, 0), (3, 3), (0, 4), (4, 0), (-1, 0), (0, -1), (0, True), (False, 1), (0, None)):
            self.bad(("open", i, j))
        self.bad(("open", 0))

    def test_places(self):
        for word in ("choose", "go"):
            for p in (2, 4):
                self.good((word, p))
            for p in (1, 0, 5, -1, None, "2", (2,)):
                self.bad((word, p))
            self.bad((word, True), 0)
            self.good((word, 1), 0)
            self.good((word, 4), 3)
            self.bad((word, 5), 4)
        self.good(("keep", 0, 2))
        self.good(("keep", 3, 4))
        for i, p in ((4, 2), (-1, 2), (True, 2), (0, 1), (0, 5), (0, None)):
            self.bad(("keep", i, p))
        self.bad(("keep", 0, True), 0)
        self.bad(("keep", 0))

    def test_works(self):
        for w in ("plus", "minus", "times", "less", "same"):
            self.good(("work", w))
        for w in ("over", "", None, 1, ("plus",), ["plus"], "pair"):
            self.bad(("work", w))

    def test_functions(self):
        for word, more in (("fun", ()), ("def", (3,))):
            self.good((word, 1, PICKS, *more))
            self.good((word, 2, (("held", 0),), *more))
            self.good((word, 3, (), *more))
            for b in (0, 4, -1, True, None, "1"):
                self.bad((word, b, (), *more))
            for picks in (PICKS[:2], (*PICKS, ("slot", 0)), list(PICKS), None, (("slot", 4), *PICKS[:2]),
                          (("held", 3), *PICKS[:2]), (("slot", True), *PICKS[:2]), (["slot", 0], *PICKS[:2]),
                          (("number", 1), *PICKS[:2]), (None, *PICKS[:2]), (RETURN, *PICKS[:2]), (("slot",), *PICKS[:2])):
                self.bad((word, 1, picks, *more))
            self.good((word, 2, (("slot", 3),), *more), 0, 0)
            self.bad((word, 2, (("self",),), *more), 0, 0)
            self.bad((word, 2, (("held", 0),), *more), 0, 0)
        for i in NO_SLOTS:
            self.bad(("def", 3, (), i))
        self.bad(("def", 3, ()))
        self.bad(("fun", 3, (), 0))
        self.good(("fun", 1, (("slot", 0), ("slot", 0), ("slot", 0))))

    def test_blocks(self):
        for held, slots, right in ((0, 0, True), (0, 2000, True), (1, 0, False), (0, 2001, False), (-1, 0, False),
                                   (0, -1, False), (False, 0, False), (0, True, False), (None, 0, False), (0, "1", False)):
            self.assertIs(is_code(((held, slots, (RETURN,)),)), right)
        first = (0, 0, (RETURN,))
        for held, slots, right in ((0, 1, True), (2000, 2000, True), (0, 0, False), (2001, 1, False), (1, 2001, False),
                                   (-1, 1, False), (True, 1, False), (1, True, False)):
            self.assertIs(is_code((first, (held, slots, (RETURN,)))), right)
        for block in ((0, 0, ()), (0, 0), (0, 0, (RETURN,), 0), (0, 0, RETURN), (0, 0, None), (), None, 0):
            self.assertIs(is_code((block,)), False)
            self.assertIs(is_code((first, block)), False)
        self.assertIs(is_code(()), False)

    def test_2000_rows_and_2001(self):
        for many, right in ((1999, True), (2000, True), (2001, False)):
            self.assertIs(is_code(((0, 0, (RETURN,) * many),)), right)
            self.assertIs(is_code(((0, 0, (RETURN,) * (many - 7)), *[(0, 1, (RETURN,))] * 7)), right)
        self.assertIs(is_code(((0, 0, (RETURN,)), *[(0, 1, (RETURN,))] * 1999)), True)
        self.assertIs(is_code(((0, 0, (RETURN,)), *[(0, 1, (RETURN,))] * 2000)), False)
        self.assertIs(is_code(((0, 0, (("go", 1999),) + (RETURN,) * 1999),)), True)

    def test_no_wholes(self):
        for value in NO_WHOLES:
            for row in (("slot", value), ("held", value), ("let", value), ("choose", value), ("number", value)):
                self.bad(row)


if __name__ == "__main__":
    unittest.main()
