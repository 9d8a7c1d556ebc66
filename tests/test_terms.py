"""Promises 7, 11 and 12: names, expressions, programs, paths, parts, and renaming."""

import copy
import unittest

from returnsdue.errors import BadExpression, BadName, BadPath, NoName
from returnsdue.terms import (
    alike, free_names, is_expression, is_name, is_program, part_at, paths, renamed, with_part,
)
from returnsdue.wholes import worked
from tests.programs import BY_HAND, TWICE, name, number, random_programs
from tests.reference import all_paths, at_path, free
from tests.values import DEEP, ODD, nested

KEPT = "call choose def fun keep less let minus open pair plus same show times".split()
ALL = ("let", "a", ("def", "y", "x", ("fun", "z", name("x")), name("y")), (
    "open", ("pair", number(1), name("a")), "b", "c", ("choose", name("b"), ("show", name("c")), (
        "keep", "k", ("call", name("k"), ("work", "plus", name("free"), number(2)))))))


def balanced(many):
    """An expression of so many nodes."""
    if many == 1:
        return number(1)
    if many == 2:
        return ("show", number(1))
    return ("pair", balanced((many - 1) // 2), balanced(many - 1 - (many - 1) // 2))


def row(many):
    """An expression in which so many nodes stand directly in one another."""
    return nested(many - 1, lambda e: ("show", e), number(1))


class JudgedTest(unittest.TestCase):
    def test_names(self):
        for value in ("a", "z", "abcdefgh", "name", "number", "work", "lets", "no"):
            self.assertIs(is_name(value), True)
        for value in ["", "abcdefghi", "A", "a1", "a b", "a\n", "\u00e9", "-", "_", *KEPT, 1, None, True, ("a",), ["a"]]:
            with self.subTest(value=value):
                self.assertIs(is_name(value), False)

    def test_each_word_makes_an_expression(self):
        for path in all_paths(ALL):
            self.assertIs(is_expression(at_path(ALL, path)), True)

    def test_odd_values_are_none(self):
        for value in ODD:
            with self.subTest(value=repr(value)[:80]):
                self.assertIs(is_expression(value), False)
                self.assertIs(is_program(value), False)
                self.assertIs(is_name(value), value == "a" or value == "number" if isinstance(value, str) else False)

    def test_numbers(self):
        for n in (0, -1, 10 ** 30 - 1, 1 - 10 ** 30):
            self.assertIs(is_expression(number(n)), True)
        for n in (10 ** 30, -10 ** 30, True, False, None, "1", (1,)):
            self.assertIs(is_expression(number(n)), False)

    def test_parts_and_words_are_looked_at(self):
        wrong = [
            ("fun", "abcdefghi", number(1)), ("fun", "fun", number(1)), ("fun", 1, number(1)), ("fun", "x", "x"),
            ("call", number(1)), ("call", number(1), number(2), number(3)), ("let", "x", number(1)),
            ("def", "x", "x", number(1), number(2)), ("open", number(1), "x", "x", number(2)),
            ("open", "x", "y", number(1), number(2)), ("work", "over", number(1), number(2)),
            ("work", ["plus"], number(1), number(2)), ("keep", "k", [("number", 1)]), ["show", number(1)],
            ("choose", number(1), number(2)), ("show", ["number", 1]), ("pair", number(1), ("number", True)),
            ("name", "let"), ("name", ("x",)), ("plus", number(1), number(2)),
        ]
        for value in wrong:
            with self.subTest(value=value):
                self.assertIs(is_expression(value), False)

    def test_nodes_and_rows(self):
        for many in (399, 400):
            self.assertIs(is_expression(balanced(many)), True)
        self.assertIs(is_expression(balanced(401)), False)
        self.assertIs(is_expression(row(60)), True)
        self.assertIs(is_expression(row(61)), False)
        self.assertIs(is_expression(("pair", number(1), row(59))), True)
        self.assertIs(is_expression(("pair", number(1), row(60))), False)

    def test_programs(self):
        self.assertIs(is_program(TWICE), True)
        self.assertIs(is_program(ALL), False)
        self.assertIs(is_program(name("x")), False)
        self.assertIs(is_program(("let", "x", name("x"), number(1))), False)
        self.assertIs(is_program(("keep", "k", name("k"))), True)


class NamesAndPathsTest(unittest.TestCase):
    def test_free_names(self):
        self.assertEqual(free_names(ALL), ["free"])
        self.assertEqual(free_names(name("x")), ["x"])
        self.assertEqual(free_names(("pair", name("z"), ("pair", name("b"), name("z")))), ["b", "z"])
        self.assertEqual(free_names(("fun", "x", name("x"))), [])
        self.assertEqual(free_names(("let", "x", name("x"), name("x"))), ["x"])
        self.assertEqual(free_names(("def", "y", "x", name("x"), name("x"))), ["x"])
        self.assertEqual(free_names(("def", "y", "x", name("y"), name("y"))), [])
        self.assertEqual(free_names(("open", ("pair", name("x"), name("y")), "x", "y", name("x"))), ["x", "y"])
        self.assertEqual(free_names(("keep", "k", ("pair", name("k"), name("j")))), ["j"])

    def test_paths(self):
        self.assertEqual(paths(number(1)), [()])
        self.assertEqual(paths(("let", "x", number(1), ("pair", name("x"), name("x")))),
                         [(), (2,), (3,), (3, 1), (3, 2)])
        for e in [ALL, *BY_HAND]:
            self.assertEqual(paths(e), sorted(all_paths(e)))
            self.assertEqual(free_names(e), sorted(free(e)))
            for path in paths(e):
                self.assertEqual(part_at(e, path), at_path(e, path))

    def test_returned_lists_are_new(self):
        paths(ALL).append(1)
        free_names(ALL).append(1)
        self.assertNotIn(1, paths(ALL))
        self.assertEqual(free_names(ALL), ["free"])

    def test_wrong_paths(self):
        e = ("let", "x", number(1), ("pair", name("x"), name("x")))
        wrong = [
            None, 3, [3], (1,), (0,), (4,), (-1,), (3, 1, 1), (3, True), (True,), (2, 1), ("3",), (3, (1,)),
            (3.0,), ((3,),), "3", {}, *DEEP,
        ]
        for path in wrong:
            with self.subTest(path=repr(path)[:60]):
                self.assertRaises(BadPath, part_at, e, path)
                self.assertRaises(BadPath, with_part, e, path, number(1))
                self.assertRaises(BadPath, renamed, e, path, "x", "q")

    def test_true_does_not_lead(self):
        self.assertRaises(BadPath, part_at, ("show", number(1)), (True,))

    def test_with_part(self):
        e = ("let", "x", number(1), ("pair", name("x"), name("x")))
        self.assertEqual(with_part(e, (), name("y")), name("y"))
        self.assertEqual(with_part(e, (3, 2), name("y")), ("let", "x", number(1), ("pair", name("x"), name("y"))))
        self.assertEqual(with_part(e, (2,), e), ("let", "x", e, e[3]))
        for path in paths(ALL):
            self.assertEqual(with_part(ALL, path, part_at(ALL, path)), ALL)

    def test_with_part_refuses_what_is_too_large(self):
        e = balanced(399)
        small = next(path for path in paths(e) if part_at(e, path) == number(1))
        self.assertEqual(len(paths(with_part(e, small, balanced(2)))), 400)
        self.assertRaises(BadExpression, with_part, e, small, balanced(3))
        self.assertTrue(with_part(("show", number(1)), (1,), row(59)))
        self.assertRaises(BadExpression, with_part, ("show", number(1)), (1,), row(60))

    def test_errors_in_their_order(self):
        for value in ODD:
            for call in (lambda: free_names(value), lambda: paths(value), lambda: part_at(value, 7),
                         lambda: with_part(value, 7, 7), lambda: renamed(value, 7, 7, 7), lambda: alike(value, ALL),
                         lambda: alike(ALL, value), lambda: with_part(ALL, (), value)):
                self.assertRaises(BadExpression, call)
        self.assertRaises(BadPath, with_part, ALL, (7,), 7)
        self.assertRaises(BadPath, renamed, ALL, (7,), 7, 7)
        self.assertRaises(NoName, renamed, ALL, (), 7, 7)

    def test_by_name(self):
        self.assertEqual(part_at(path=(2,), expression=("fun", "x", name("x"))), name("x"))
        self.assertEqual(with_part(part=number(1), path=(), expression=ALL), number(1))
        self.assertEqual(renamed(name="q", old="x", path=(), expression=("fun", "x", name("x"))),
                         ("fun", "q", name("q")))
        self.assertIs(alike(other=number(1), one=number(1)), True)
        self.assertIs(is_name(value="a"), True)

    def test_nothing_is_changed(self):
        value = [["name", "x"], {"a": [1]}]
        before = copy.deepcopy(value)
        is_expression(value)
        is_program((value,))
        self.assertEqual(value, before)


class RenamedTest(unittest.TestCase):
    def test_example(self):
        e = ("fun", "x", name("x"))
        self.assertEqual(renamed(e, (), "x", "q"), ("fun", "q", name("q")))
        self.assertIs(alike(e, ("fun", "q", name("q"))), True)

    def test_each_node_that_binds(self):
        e = ("let", "x", name("x"), ("pair", name("x"), ("fun", "x", name("x"))))
        self.assertEqual(renamed(e, (), "x", "q"), ("let", "q", name("x"), ("pair", name("q"), ("fun", "x", name("x")))))
        self.assertEqual(renamed(e, (3, 2), "x", "q"),
                         ("let", "x", name("x"), ("pair", name("x"), ("fun", "q", name("q")))))
        e = ("def", "y", "x", ("pair", name("y"), name("x")), ("pair", name("y"), name("x")))
        self.assertEqual(renamed(e, (), "y", "q"),
                         ("def", "q", "x", ("pair", name("q"), name("x")), ("pair", name("q"), name("x"))))
        self.assertEqual(renamed(e, (), "x", "q"),
                         ("def", "y", "q", ("pair", name("y"), name("q")), ("pair", name("y"), name("x"))))
        e = ("open", name("x"), "x", "y", ("pair", name("x"), name("y")))
        self.assertEqual(renamed(e, (), "x", "q"), ("open", name("x"), "q", "y", ("pair", name("q"), name("y"))))
        self.assertEqual(renamed(e, (), "y", "q"), ("open", name("x"), "x", "q", ("pair", name("x"), name("q"))))
        e = ("keep", "k", ("call", name("k"), ("keep", "k", name("k"))))
        self.assertEqual(renamed(e, (), "k", "q"), ("keep", "q", ("call", name("q"), ("keep", "k", name("k")))))

    def test_refused(self):
        e = ("let", "x", number(1), ("pair", name("x"), name("y")))
        for path in ((2,), (3,), (3, 1)):
            self.assertRaises(BadPath, renamed, e, path, "x", "q")
        for old in ("y", "q", "let", "", 1, None, ("x",), ["x"]):
            self.assertRaises(NoName, renamed, e, (), old, "q")
        for new in ("x", "y", "let", "abcdefghi", "", 1, None, ("q",), ["q"], True):
            self.assertRaises(BadName, renamed, e, (), "x", new)

    def test_renamed_is_alike(self):
        binders = {"fun": [1], "let": [1], "def": [1, 2], "open": [2, 3], "keep": [1]}
        for e in [ALL, *BY_HAND, *random_programs(3, 40, is_program)]:
            for path in paths(e):
                node = part_at(e, path)
                for at in binders.get(node[0], []):
                    other = renamed(e, path, node[at], "qqq")
                    self.assertIs(alike(e, other), True)
                    self.assertIs(alike(other, e), True)
                    self.assertNotEqual(e, other)
                    if f"'{node[at]}'" not in repr(other):
                        self.assertEqual(renamed(other, path, "qqq", node[at]), e)
                    self.assertEqual(free_names(other), free_names(e))

    def test_alike(self):
        pairs = [
            (("fun", "x", ("fun", "y", name("x"))), ("fun", "y", ("fun", "x", name("y"))), True),
            (("fun", "x", ("fun", "y", name("x"))), ("fun", "x", ("fun", "y", name("y"))), False),
            (("fun", "x", ("fun", "x", name("x"))), ("fun", "a", ("fun", "b", name("b"))), True),
            (("fun", "x", ("fun", "x", name("x"))), ("fun", "a", ("fun", "b", name("a"))), False),
            (name("x"), name("x"), True), (name("x"), name("y"), False),
            (("fun", "x", name("y")), ("fun", "y", name("y")), False),
            (("fun", "y", name("y")), ("fun", "x", name("y")), False),
            (("fun", "x", name("z")), ("fun", "y", name("z")), True),
            (number(1), number(1), True), (number(1), number(2), False), (number(1), ("show", number(1)), False),
            (("work", "plus", number(1), number(2)), ("work", "minus", number(1), number(2)), False),
            (("def", "a", "b", name("a"), name("a")), ("def", "b", "a", name("b"), name("b")), True),
            (("def", "a", "b", name("a"), name("a")), ("def", "a", "b", name("b"), name("a")), False),
            (("open", name("p"), "a", "b", name("a")), ("open", name("p"), "b", "a", name("b")), True),
            (("open", name("p"), "a", "b", name("a")), ("open", name("p"), "a", "b", name("b")), False),
            (("let", "a", name("a"), name("a")), ("let", "b", name("b"), name("b")), False),
            (("let", "a", name("c"), name("a")), ("let", "b", name("c"), name("b")), True),
            (("fun", "x", name("x")), ("keep", "x", name("x")), False),
        ]
        for one, other, wanted in pairs:
            with self.subTest(one=one, other=other):
                self.assertIs(alike(one, other), wanted)

    def test_work(self):
        self.assertEqual([worked(word, 3, 5) for word in ("plus", "minus", "times", "less", "same")], [8, -2, 15, 1, 0])
        self.assertEqual([worked(word, 5, 5) for word in ("plus", "minus", "times", "less", "same")], [10, 0, 25, 0, 1])


if __name__ == "__main__":
    unittest.main()
