"""Promise 25: uses and returns, judged, and the table that numbers demands."""

import unittest

from returnsdue.demands import is_returns, is_uses
from returnsdue.demandtable import Demands
from tests.values import ODD, nested

END = ("end", ("number", 5))
USES = [
    (), (("number", 3),), (END,), (("end", ("function",)),), (("end", ("pair",)), ("end", ("kept",))),
    (("enter", ()),), (("enter", (END, END)),), (("open", (), ()),), (("open", (("number", 1),), (END,)),),
    (("call", (), ()),), (("call", (), ((),)),), (("call", (END,), ((END,), (), (("number", -1),))),),
    (("call", (("open", (), (("enter", (END,)),)),), ((("call", (), ()),),)), ("number", 0)),
]
NO_DEMANDS = [
    ("number",), ("number", True), ("number", "3"), ("number", None), ("number", 1, 2), ("number", (1,)),
    ("end",), ("end", ("stuck",)), ("end", ("more",)), ("end", ("number",)), ("end", ("number", True)), ("end", "pair"),
    ("end", ["pair"]), ("end", ("pair",), ()), ("end", ("pair", 5)), ("end", ("show", 5)), ("end", (0, 5)), ("end", ()), ("end", None),
    ("enter",), ("enter", None), ("enter", []), ("enter", END), ("enter", (), ()),
    ("open", ()), ("open", (), (), ()), ("open", [], ()), ("open", (), []), ("open", (), None),
    ("call", ()), ("call", (), [], ()), ("call", (), []), ("call", [], ()), ("call", (), (END,)), ("call", (), None),
    ("call", (), ([],)), ("look", ()), (), None, [], ["number", 3], "number", 1, (["number"], 3), ("called", (), 0),
]


class UsesTest(unittest.TestCase):
    def test_uses(self):
        for value in USES:
            with self.subTest(value=value):
                self.assertIs(is_uses(value), True)
                self.assertIs(is_uses(list(value)), False)
                self.assertIs(is_returns((value,)), True)
                self.assertIs(is_returns((value, (), value)), True)
                self.assertIs(is_returns([value]), False)

    def test_no_uses(self):
        for demand in NO_DEMANDS:
            for value in ((demand,), (END, demand), (("enter", (demand,)),), (("call", (), ((), (demand,))),),
                          (("open", (), (demand,)),), (("call", (demand,), ()),)):
                with self.subTest(value=value):
                    self.assertIs(is_uses(value), False)
                    self.assertIs(is_returns((value,)), False)

    def test_any_value(self):
        for value in ODD:
            with self.subTest(value=repr(value)[:60]):
                plain = isinstance(value, tuple) and not value
                deep = value == (("enter", value[0][1]),) if value and isinstance(value, tuple) and (
                    isinstance(value[0], tuple) and value[0][:1] == ("enter",)) else False
                number = value == (("number", 1),)
                self.assertIs(is_uses(value), plain or deep or number)
        self.assertIs(is_returns(()), True)
        self.assertIs(is_returns(((),)), True)
        self.assertIs(is_returns((None,)), False)
        self.assertIs(is_returns(None), False)

    def test_deep_ones(self):
        deep = nested(149, lambda value: (("call", (), (value,)),), ())
        self.assertIs(is_uses(deep), True)
        self.assertIs(is_uses(nested(149, lambda value: (("call", (), (value,)),), None)), False)
        self.assertIs(is_returns((deep, nested(148, lambda value: (("open", value, ()),), ()))), True)

    def test_by_name(self):
        self.assertIs(is_uses(value=()), True)
        self.assertIs(is_returns(value=()), True)


class TableTest(unittest.TestCase):
    def test_there_and_back(self):
        table = Demands()
        for uses in USES:
            self.assertEqual(table.told(table.read(uses)), uses)
        self.assertEqual(table.told_returns(table.read_returns(tuple(USES))), tuple(USES))

    def test_equal_exactly_if_the_numbers_are(self):
        table = Demands()
        read = [table.read(uses) for uses in USES]
        self.assertEqual(len(set(read)), len(USES))
        self.assertEqual([table.read(uses) for uses in USES], read)

    def test_deep_uses(self):
        table = Demands()
        deep = nested(149, lambda value: (("call", value, ((),)),), ())
        self.assertEqual(table.told(table.read(deep)), deep)


if __name__ == "__main__":
    unittest.main()
