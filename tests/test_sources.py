"""Promise 54: programs with plain names, and the programs whose codes are given."""

import random
import string
import unittest

from returnsdue.codes import is_code
from returnsdue.compiler import compiled
from returnsdue.errors import BadCode, BadProgram
from returnsdue.running import run
from returnsdue.sources import plain_names, source_of
from returnsdue.terms import alike, is_program, paths, renamed
from tests.codes_made import CODES_OF_NONE, changed, random_codes
from tests.programs import (
    BY_HAND, ENDLESS, ENTERED, IDENTITY, STUCK, TWICE, call, chained, exchanged_at, name, number, part_of, paths_of, random_programs)
from tests.values import ODD

ROW = list(string.ascii_lowercase) + [one + other for one in string.ascii_lowercase for other in string.ascii_lowercase]
PROGRAMS = BY_HAND + [ENDLESS, STUCK, chained(59)] + random_programs(54, 400, is_program)
BINDERS = {"fun": [1], "let": [1], "keep": [1], "def": [1, 2], "open": [2, 3]}


def plain_by_renaming(program):
    """Plain names by renaming names one by one: first to names that stand nowhere, then to those of the row."""
    standing = repr(program)
    spare = [x for x in (one + "q" + other + "zz" for one in ROW for other in ROW[:30]) if f"'{x}'" not in standing]
    many = 0
    for path in sorted(paths(program)):
        part = part_of(program, path)
        for at in BINDERS.get(part[0], []):
            program = renamed(program, path, part_of(program, path)[at], spare[many])
            many += 1
    for count in range(many):
        for path in paths(program):
            part = part_of(program, path)
            for at in BINDERS.get(part[0], []):
                if part[at] == spare[count]:
                    program = renamed(program, path, spare[count], ROW[count])
    return program


class PlainNamesTest(unittest.TestCase):
    def test_by_hand(self):
        for program, wanted in [
                (number(5), number(5)), (("fun", "x", name("x")), ("fun", "a", name("a"))),
                (("fun", "x", ("fun", "x", name("x"))), ("fun", "a", ("fun", "b", name("b")))),
                (("let", "z", ("fun", "z", name("z")), name("z")), ("let", "a", ("fun", "b", name("b")), name("a"))),
                (("def", "b", "a", call(name("b"), name("a")), name("b")), ("def", "a", "b", call(name("a"), name("b")), name("a"))),
                (("open", ("fun", "x", name("x")), "x", "y", name("x")), ("open", ("fun", "c", name("c")), "a", "b", name("a"))),
                (("pair", ("keep", "b", name("b")), ("keep", "a", name("a"))), ("pair", ("keep", "a", name("a")), ("keep", "b", name("b"))))]:
            self.assertEqual(plain_names(program), wanted)
            self.assertEqual(plain_names(program=wanted), wanted)

    def test_second_reading(self):
        for program in PROGRAMS:
            found = plain_names(program)
            self.assertTrue(alike(found, program))
            self.assertEqual(plain_names(found), found)
            self.assertEqual(run(found, 60), run(program, 60))
        for program in PROGRAMS[::5]:
            self.assertEqual(plain_names(program), plain_by_renaming(program))

    def test_many_names(self):
        e = number(0)
        for at in range(58):
            e = ("open", number(1), "x", "y", e) if at % 2 else ("let", "x", number(1), e)
        found = plain_names(e)
        self.assertEqual([x for x in ROW[:87] if f"'{x}'" not in repr(found)], [])
        self.assertNotIn(f"'{ROW[87]}'", repr(found))
        # The last ones are of the innermost part.
        self.assertEqual(part_of(found, sorted(paths(found), key=len)[-1][:-1])[1], "ci")

    def test_programs_alike_have_the_same_plain_names(self):
        r = random.Random(54)
        for program in PROGRAMS[::4]:
            other = program
            for path in paths(program):
                part = part_of(other, path)
                for at in BINDERS.get(part[0], []):
                    new = r.choice(ROW[:40])
                    if f"'{new}'" not in repr(other):
                        other = renamed(other, path, part_of(other, path)[at], new)
            self.assertEqual(plain_names(other), plain_names(program))


class SourceTest(unittest.TestCase):
    def test_there_and_back(self):
        for program in PROGRAMS:
            self.assertEqual(source_of(compiled(program)), plain_names(program))

    def test_by_hand(self):
        self.assertEqual(source_of(((0, 0, (("number", 5), ("return",))),)), number(5))
        self.assertEqual(source_of(code=((0, 1, (("keeplast", 0), ("slot", 0), ("number", 5), ("last",))),)),
                         ("keep", "a", call(name("a"), number(5))))
        lets = (0, 1, (("number", 4), ("let", 0), ("fun", 1, (("slot", 0),)), ("slot", 0), ("last",)))
        self.assertEqual(source_of((lets, (1, 1, (("held", 0), ("return",))))),
                         ("let", "a", number(4), call(("fun", "b", name("a")), name("a"))))

    def test_codes_that_are_the_code_of_no_program(self):
        one = ("number", 1)
        end = ("return",)
        body = (0, 1, (("slot", 0), end))
        for code in [
                ((0, 1, (one, end)),), ((0, 0, (one, one, end)),), ((0, 0, (one,)),), ((0, 0, (end,)),), ((0, 0, (one, end, end)),),
                ((0, 0, (one, end, one, end)),), ((0, 0, (one, ("go", 2), end)),), ((0, 0, (("pair",), end)),), ((0, 0, (one, ("pair",), end)),),
                ((0, 2, (one, ("let", 1), one, end)),), ((0, 2, (one, ("let", 0), one, end)),), ((0, 1, (one, ("let", 0), one)),),
                ((0, 1, (one, ("let", 0), one, ("drop", 0), end)),), ((0, 1, (("slot", 0), end)),), ((0, 1, (one, ("drop", 0), end)),),
                ((0, 1, (("keep", 0, 2), one, end)),), ((0, 1, (("keep", 0, 3), one, end, end)),), ((0, 1, (one, ("keeplast", 0), one, end)),),
                ((0, 0, (one, ("choose", 3), one, one, end)),), ((0, 0, (one, ("choose", 4), one, ("go", 5), one, one, end)),),
                ((0, 0, (one, ("choose", 3), one, end, one, end)),), ((0, 0, (one, ("choose", 4), one, end, one, ("last",))),),
                ((0, 0, (one, one, ("call",), end)),), ((0, 0, (one, end)), body), ((0, 0, (("fun", 2, ()), end)), body, body),
                ((0, 0, (("fun", 1, ()), ("fun", 1, ()), ("pair",), end)), body), ((0, 0, (("fun", 1, ()), end)), (0, 2, (("slot", 0), end))),
                ((0, 0, (("fun", 1, ()), end)), (0, 1, (("self",), end))), ((0, 0, (("fun", 1, ()), end)), (0, 1, (("slot", 0), end, end))),
                ((0, 0, (("fun", 1, ()), end)), (0, 1, (("fun", 1, ()), end))), ((0, 0, (("fun", 2, ()), ("fun", 1, ()), ("pair",), end)), body, body),
                ((0, 1, (one, ("let", 0), ("fun", 1, (("slot", 0), ("slot", 0))), end)), (2, 1, (("held", 0), ("held", 1), ("pair",), end))),
                ((0, 1, (one, ("let", 0), ("fun", 1, (("slot", 0),)), end)), (1, 1, (("slot", 0), end))),
                ((0, 1, (("def", 1, (), 0), ("slot", 0), end)), (0, 1, (("self",), ("self",), end))),
                ((0, 2, (("def", 1, (), 1), ("slot", 1), end)), (0, 1, (("self",), end)))]:
            self.assertTrue(is_code(code), code)
            self.assertIsNone(source_of(code))

    def test_each_row_and_size_changed(self):
        """Whatever comes is right: a program of which the code is compiled; and a code that is known to be one is found."""
        found = {True: 0, False: 0}
        for program in BY_HAND[::2] + PROGRAMS[40:60]:
            code = compiled(program)
            for at, (held, slots, rows) in enumerate(code):
                blocks = [(held + 1, slots, rows), (held, slots + 1, rows), (max(held - 1, 0), slots, rows)]
                for place, row in enumerate(rows):
                    blocks.append((held, slots, rows[:place] + rows[place + 1:]))
                    for other in [("number", 77), ("slot", 0), ("held", 0), ("self",), ("pair",), ("return",), ("last",), ("call",),
                                  ("work", "less"), ("let", 0), ("drop", 0), ("go", len(rows) - 1), ("choose", len(rows) - 1), row]:
                        blocks.append((held, slots, rows[:place] + (other,) + rows[place + 1:]))
                        blocks.append((held, slots, rows[:place] + (other,) + rows[place:]))
                for block in blocks:
                    other = code[:at] + (block,) + code[at + 1:]
                    if is_code(other):
                        found[self.check(other)] += 1
            for at in range(1, len(code) - 1):
                self.check(code[:at] + (code[at + 1], code[at]) + code[at + 2:])
            self.check(code + ((0, 1, (("slot", 0), ("return",))),))
        self.assertTrue(found[True] > 150 and found[False] > 1500, found)

    def check(self, code):
        if not is_code(code):
            self.assertRaises(BadCode, source_of, code)
            return False
        found = source_of(code)
        if found is None:
            return False
        self.assertTrue(is_program(found))
        self.assertEqual((compiled(found), plain_names(found)), (code, found))
        return True

    def test_codes_at_random(self):
        r = random.Random(540)
        many = 0
        for program in PROGRAMS[:200]:
            code = compiled(program)
            for _ in range(4):
                code = changed(r, code)
                if not is_code(code):
                    break
                many += self.check(code)
        for code in CODES_OF_NONE + random_codes(541, 300):
            self.check(code)
        self.assertGreater(many, 20)

    def test_codes_of_changed_programs(self):
        # What is changed in the program is changed in its code; so what was changed is known.
        r = random.Random(542)
        for program in PROGRAMS[:150]:
            places = [path for path in paths_of(program) if part_of(program, path)[0] == "number"]
            for path in places[:3]:
                other = exchanged_at(program, path, number(r.randint(90, 99)))
                self.assertEqual(source_of(compiled(other)), plain_names(other))
                self.assertNotEqual(compiled(other), compiled(program))

    @staticmethod
    def tree_of_pairs(many, shows):
        """The rows of a tree of pairs of so many numbers, not deep, with some shows around; its nodes are 2 many - 1 and these."""
        row = [(("number", at),) for at in range(many)]
        while len(row) > 1:
            row = [sum(row[at:at + 2], ()) + ((("pair",),) if at + 1 < len(row) else ()) for at in range(0, len(row), 2)]
        return ((0, 0, row[0] + (("show",),) * shows + (("return",),)),)

    def test_limits(self):
        for many, shows in ((199, 0), (199, 1), (200, 0), (200, 1), (201, 0), (201, 1), (400, 0), (5, 390)):
            code = self.tree_of_pairs(many, shows)
            nodes = 2 * many - 1 + shows
            found = source_of(code)
            if nodes <= 400 and shows < 50:
                self.assertEqual((compiled(found), len(paths(found))), (code, nodes))
            else:
                self.assertIsNone(found)
        for shows in (58, 59, 60, 61, 300, 1990):
            found = source_of(((0, 0, (("number", 0),) + (("show",),) * shows + (("return",),)),))
            self.assertEqual(found, chained(shows) if shows < 60 else None)
        for lets in (58, 59, 60, 61, 500, 999):
            rows = sum([(("number", 1), ("let", at)) for at in range(lets)], ()) + (("number", 0), ("return",))
            found = source_of(((0, lets, rows),))
            if lets < 60:
                self.assertEqual(compiled(found), ((0, lets, rows),))
            else:
                self.assertIsNone(found)

    def test_many_parts_that_are_not_deep(self):
        def tree(part):
            row = [part(at) for at in range(64)]
            while len(row) > 1:
                row = [("pair", *row[at:at + 2]) for at in range(0, len(row), 2)]
            return row[0]

        for program in (tree(lambda at: ("let", "x", number(at), name("x"))), tree(lambda at: ("fun", "x", name("x"))),
                        tree(lambda at: ("keep", "x", number(at))), tree(lambda at: ("choose", number(at), number(1), number(2)))):
            self.assertTrue(is_program(program))
            self.assertEqual(source_of(compiled(program)), plain_names(program))

    def test_deep_functions(self):
        for many in (59, 60, 61, 400, 999):
            blocks = [(0, 0, (("fun", 1, ()), ("return",)))]
            blocks += [(0, 1, (("fun", at + 2, ()), ("return",))) for at in range(many - 1)]
            blocks.append((0, 1, (("slot", 0), ("return",))))
            found = source_of(tuple(blocks))
            if many < 60:
                self.assertEqual(compiled(found), tuple(blocks))
            else:
                self.assertIsNone(found)

    def test_the_same_code_exactly_if_alike(self):
        some = [program for program in PROGRAMS if len(paths(program)) < 9][:60]
        for one in some:
            for other in some:
                self.assertEqual(compiled(one) == compiled(other), alike(one, other))
                self.assertEqual(source_of(compiled(one)) == source_of(compiled(other)), alike(one, other))


class RefusedTest(unittest.TestCase):
    def test_refused(self):
        for value in [*ODD, name("x")]:
            self.assertRaises(BadProgram, plain_names, value)
        for value in [*ODD, ((0, 1, (("slot", 1), ("return",))),), TWICE, ENTERED, IDENTITY]:
            self.assertRaises(BadCode, source_of, value)


if __name__ == "__main__":
    unittest.main()
