"""Promise 53: programs laid into code."""

import unittest

from returnsdue.codes import is_code
from returnsdue.compiler import compiled
from returnsdue.errors import BadProgram
from returnsdue.loader import fits, heights
from returnsdue.running import steps
from returnsdue.terms import is_program
from tests.codereference import KINDS
from tests.programs import BY_HAND, TWICE, call, name, number, random_programs
from tests.reference import all_paths, at_path
from tests.values import ODD

ONE, TWO, THREE = number(1), number(2), number(3)
RETURN = ("return",)
LAST = ("last",)
PROGRAMS = BY_HAND + random_programs(530, 200, is_program)
ROW_WORDS = {
    "name": ("slot", "held", "self"), "number": ("number",), "fun": ("fun",), "call": ("call", "last"), "let": ("let",),
    "def": ("def",), "pair": ("pair",), "open": ("open",), "choose": ("choose",), "work": ("work",), "show": ("show",),
    "keep": ("keep", "keeplast"),
}


def not_last(e):
    """A program in which e stands in a place that is not last, and its rows."""
    (block, *more) = compiled(("show", e))
    _, slots, rows = block
    assert rows[-2:] == (("show",), RETURN)
    return slots, rows[:-2], tuple(more)


def last(e):
    (block, *more) = compiled(e)
    return block[1], block[2], tuple(more)


class ByHandTest(unittest.TestCase):
    def test_example(self):
        program = ("let", "x", number(4), call(("fun", "y", name("x")), name("x")))
        block = (0, 1, (number(4), ("let", 0), ("fun", 1, (("slot", 0),)), ("slot", 0), LAST))
        self.assertEqual(compiled(program), (block, (1, 1, (("held", 0), RETURN))))
        self.assertEqual(compiled(program=program), (block, (1, 1, (("held", 0), RETURN))))

    def test_each_kind(self):
        identity = (0, 1, (("slot", 0), RETURN))
        x = ("slot", 0)
        kinds = [
            (ONE, 0, (ONE,), (RETURN,), ()),
            (("fun", "x", name("x")), 0, (("fun", 1, ()),), (RETURN,), (identity,)),
            (("pair", ONE, TWO), 0, (ONE, TWO, ("pair",)), (RETURN,), ()),
            (("work", "less", ONE, TWO), 0, (ONE, TWO, ("work", "less")), (RETURN,), ()),
            (("show", ONE), 0, (ONE, ("show",)), (RETURN,), ()),
            (("let", "x", ONE, name("x")), 1, (ONE, ("let", 0), x), (RETURN,), ()),
        ]
        for e, slots, rows, ending, more in kinds:
            dropped = (("drop", 0),) if e[0] == "let" else ()
            self.assertEqual(last(e), (slots, rows + ending, more))
            self.assertEqual(not_last(e), (slots, rows + dropped, more))

    def test_call(self):
        e = call(ONE, TWO)
        self.assertEqual(last(e), (0, (ONE, TWO, LAST), ()))
        self.assertEqual(not_last(e), (0, (ONE, TWO, ("call",)), ()))

    def test_open(self):
        e = ("open", ONE, "x", "y", name("y"))
        self.assertEqual(last(e), (2, (ONE, ("open", 0, 1), ("slot", 1), RETURN), ()))
        self.assertEqual(not_last(e), (2, (ONE, ("open", 0, 1), ("slot", 1), ("drop", 1), ("drop", 0)), ()))

    def test_def(self):
        e = ("def", "y", "x", call(name("y"), name("x")), name("y"))
        body = (0, 1, (("self",), ("slot", 0), LAST))
        self.assertEqual(last(e), (1, (("def", 1, (), 0), ("slot", 0), RETURN), (body,)))
        self.assertEqual(not_last(e), (1, (("def", 1, (), 0), ("slot", 0), ("drop", 0)), (body,)))

    def test_choose(self):
        e = ("choose", ONE, TWO, THREE)
        self.assertEqual(last(e), (0, (ONE, ("choose", 4), TWO, RETURN, THREE, RETURN), ()))
        self.assertEqual(not_last(e), (0, (ONE, ("choose", 4), TWO, ("go", 5), THREE), ()))
        nested = ("choose", ONE, ("let", "x", ONE, name("x")), ("let", "z", TWO, e))
        self.assertEqual(last(nested), (1, (
            ONE, ("choose", 6), ONE, ("let", 0), ("slot", 0), RETURN, TWO, ("let", 0), ONE, ("choose", 12), TWO, RETURN, THREE,
            RETURN), ()))
        self.assertEqual(not_last(nested), (1, (
            ONE, ("choose", 7), ONE, ("let", 0), ("slot", 0), ("drop", 0), ("go", 15), TWO, ("let", 0), ONE, ("choose", 13),
            TWO, ("go", 14), THREE, ("drop", 0)), ()))

    def test_keep(self):
        e = ("keep", "k", call(name("k"), ONE))
        self.assertEqual(last(e), (1, (("keeplast", 0), ("slot", 0), ONE, LAST), ()))
        self.assertEqual(not_last(e), (1, (("keep", 0, 4), ("slot", 0), ONE, LAST), ()))
        e = ("keep", "k", ("let", "x", ONE, name("k")))
        self.assertEqual(last(e), (2, (("keeplast", 0), ONE, ("let", 1), ("slot", 0), RETURN), ()))
        self.assertEqual(not_last(e), (2, (("keep", 0, 5), ONE, ("let", 1), ("slot", 0), RETURN), ()))
        # Behind a keep its slot is free again, though nothing drops it.
        both = ("pair", ("keep", "k", name("k")), ("let", "x", ONE, name("x")))
        rows = (("keep", 0, 3), ("slot", 0), RETURN, ONE, ("let", 0), ("slot", 0), ("drop", 0), ("pair",), RETURN)
        self.assertEqual(last(both), (1, rows, ()))

    def test_slots_used_again_behind_a_drop(self):
        e = ("pair", ("let", "x", ONE, name("x")), ("open", TWO, "a", "b", name("b")))
        rows = (ONE, ("let", 0), ("slot", 0), ("drop", 0), TWO, ("open", 0, 1), ("slot", 1), ("drop", 1), ("drop", 0), ("pair",))
        self.assertEqual(last(e), (2, rows + (RETURN,), ()))
        deep = ("let", "a", ("let", "b", ONE, ("let", "c", TWO, name("b"))), ("let", "d", THREE, name("a")))
        rows = (ONE, ("let", 0), TWO, ("let", 1), ("slot", 0), ("drop", 1), ("drop", 0), ("let", 0), THREE, ("let", 1),
                ("slot", 0), RETURN)
        self.assertEqual(last(deep), (2, rows, ()))

    def test_names_that_hide_others_in_the_same_block(self):
        e = ("let", "x", ONE, ("let", "x", name("x"), name("x")))
        self.assertEqual(last(e), (2, (ONE, ("let", 0), ("slot", 0), ("let", 1), ("slot", 1), RETURN), ()))
        e = ("let", "x", ONE, ("pair", ("let", "x", TWO, name("x")), name("x")))
        self.assertEqual(last(e)[1][2:6], (TWO, ("let", 1), ("slot", 1), ("drop", 1)))
        self.assertEqual(last(e)[1][6:], (("slot", 0), ("pair",), RETURN))

    def test_names_that_hide_others_across_blocks(self):
        e = ("let", "x", ONE, ("fun", "x", ("let", "x", name("x"), name("x"))))
        self.assertEqual(last(e)[2], ((0, 2, (("slot", 0), ("let", 1), ("slot", 1), RETURN)),))
        e = ("def", "y", "x", ("let", "y", name("y"), name("y")), name("y"))
        self.assertEqual(last(e)[2], ((0, 2, (("self",), ("let", 1), ("slot", 1), RETURN)),))
        e = ("let", "y", ONE, ("def", "y", "x", name("y"), name("y")))
        self.assertEqual(last(e), (2, (ONE, ("let", 0), ("def", 1, (), 1), ("slot", 1), RETURN), ((0, 1, (("self",), RETURN)),)))
        e = ("def", "y", "x", ("fun", "y", name("y")), name("y"))
        self.assertEqual(last(e)[2], ((0, 1, (("fun", 2, ()), RETURN)), (0, 1, (("slot", 0), RETURN))))

    def test_held_names_in_the_order_in_which_they_are_first_met(self):
        inner = ("pair", name("c"), ("pair", ("fun", "z", ("pair", name("z"), name("a"))), ("pair", name("c"), name("b"))))
        e = ("let", "a", ONE, ("let", "b", TWO, ("let", "c", THREE, ("fun", "x", inner))))
        blocks = compiled(e)
        self.assertEqual(blocks[0][2][6], ("fun", 1, (("slot", 2), ("slot", 0), ("slot", 1))))
        self.assertEqual(blocks[1], (3, 1, (("held", 0), ("fun", 2, (("held", 1),)), ("held", 0), ("held", 2), ("pair",),
                                            ("pair",), ("pair",), RETURN)))
        self.assertEqual(blocks[2], (1, 1, (("slot", 0), ("held", 0), ("pair",), RETURN)))

    def test_names_bound_within_a_body_are_not_held(self):
        body = ("pair", ("let", "a", name("a"), name("a")), ("open", name("b"), "a", "c", ("pair", name("c"), name("d"))))
        e = ("let", "a", ONE, ("let", "b", TWO, ("let", "d", THREE, ("fun", "x", body))))
        self.assertEqual(compiled(e)[0][2][6], ("fun", 1, (("slot", 0), ("slot", 1), ("slot", 2))))

    def test_functions_in_functions_reach_the_name_of_a_def(self):
        e = ("def", "y", "x", ("fun", "z", call(name("y"), name("x"))), name("y"))
        self.assertEqual(compiled(e)[1:], (
            (0, 1, (("fun", 2, (("self",), ("slot", 0))), RETURN)), (2, 1, (("held", 0), ("held", 1), LAST))))
        e = ("def", "y", "x", ("def", "z", "u", ("pair", name("y"), name("z")), name("z")), name("y"))
        self.assertEqual(compiled(e)[1:], (
            (0, 2, (("def", 2, (("self",),), 1), ("slot", 1), RETURN)), (1, 1, (("held", 0), ("self",), ("pair",), RETURN))))

    def test_a_def_is_not_bound_where_its_picks_are_reached(self):
        e = ("let", "y", ONE, ("let", "z", TWO, ("def", "f", "x", name("z"), ("fun", "u", name("f")))))
        self.assertEqual(compiled(e)[0], (0, 3, (ONE, ("let", 0), TWO, ("let", 1), ("def", 1, (("slot", 1),), 2),
                                                 ("fun", 2, (("slot", 2),)), RETURN)))

    def test_blocks_are_numbered_as_they_are_met(self):
        def fun(n):
            return ("fun", "x", number(n))
        e = ("pair", ("fun", "x", ("pair", fun(2), fun(3))), ("def", "y", "x", fun(5), ("pair", fun(6), fun(7))))
        blocks = compiled(e)
        self.assertEqual(len(blocks), 8)
        self.assertEqual([block[2][0] for block in blocks], [
            ("fun", 1, ()), ("fun", 2, ()), number(2), number(3), ("fun", 5, ()), number(5), number(6), number(7)])
        self.assertEqual(blocks[0][2][1], ("def", 4, (), 0))


class EachProgramTest(unittest.TestCase):
    def test_the_code_fits(self):
        for program in PROGRAMS:
            code = compiled(program)
            self.assertIs(is_code(code), True)
            self.assertIs(fits(code), True)
            self.assertNotIn(None, [height for block in heights(code) for height in block])

    def test_one_row_for_each_expression(self):
        for program in PROGRAMS:
            words = [row[0] for _, _, rows in compiled(program) for row in rows]
            kinds = [at_path(program, path)[0] for path in all_paths(program)]
            for kind, rows in ROW_WORDS.items():
                self.assertEqual(kinds.count(kind), sum(words.count(row) for row in rows))
            self.assertLessEqual(set(words) - {row for rows in ROW_WORDS.values() for row in rows}, {"go", "drop", "return"})

    def test_slots_are_the_most_names_bound_at_once(self):
        for program in PROGRAMS:
            for _, slots, rows in compiled(program)[:1]:
                used = [i for row in rows if row[0] in ("let", "open", "def", "keep", "keeplast")
                        for i in (row[1:] if row[0] == "open" else (row[3] if row[0] == "def" else row[1],))]
                self.assertEqual(slots, max(used, default=-1) + 1)

    def test_rows_stand_in_the_order_of_the_first_steps(self):
        # A straight program's rows are its steps, but for those that are none.
        for program in PROGRAMS:
            words = {at_path(program, path)[0] for path in all_paths(program)}
            if words & {"choose", "call", "keep"}:
                continue
            rows = [row[0] for row in compiled(program)[0][2]]
            kinds = [KINDS[word] for word in rows if word in KINDS]
            done = list(steps(program, 9999))
            self.assertEqual(done, kinds[:len(done)])

    def test_large_programs(self):
        wide = number(0)
        for _ in range(50):
            wide = ("pair", wide, ("show", number(1)))
        self.assertIs(fits(compiled(wide)), True)
        deep = name("x")
        for _ in range(58):
            deep = ("fun", "x", deep)
        self.assertEqual(len(compiled(("let", "x", ONE, deep))), 59)

    def test_refused(self):
        for value in [*ODD, name("x"), ("fun", "x", name("y")), list(TWICE)]:
            self.assertRaises(BadProgram, compiled, value)


if __name__ == "__main__":
    unittest.main()
