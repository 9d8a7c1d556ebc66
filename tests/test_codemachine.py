"""Promises 61, 62 and 63: the machine on code, over each pile, and how often frames are given a worth."""

import unittest

from returnsdue.billing import bill
from returnsdue.codemachine import CodeMachine, code_steps, returned, run_code, run_over
from returnsdue.compiler import compiled
from returnsdue.errors import BadCode, BadMost, BadPile, Gone, Misfit, TooMany
from returnsdue.judging import many
from returnsdue.piles import Copied, Led, Shared, Split
from returnsdue.running import run, steps
from returnsdue.terms import is_program
from tests.codereference import CodeReference
from tests.codes_made import CODES_OF_NONE, CODES_OF_PROGRAMS, PROGRAMS, random_codes
from tests.programs import (
    ENDLESS, ENTERED, IDENTITY, STUCK, TWICE, call, counted_down, loop, name, number, random_programs, summed,
)
from tests.values import NO_WHOLES, ODD

ONE, TWO = number(1), number(2)
RETURN, LAST, CALL = ("return",), ("last",), ("call",)
MISFIT = ((0, 1, (("slot", 0), RETURN)),)
NO_CODE = ((0, 1, (("slot", 1), RETURN)),)
KINDS = ["call", "choose", "def", "enter", "hold", "keep", "let", "look", "open", "show", "work"]
IDENTITY_BLOCK = (0, 1, (("slot", 0), RETURN))


def counts(**many):
    return {kind: many.get(kind, 0) for kind in KINDS}


def first(*rows, slots=3, more=(IDENTITY_BLOCK,)):
    return ((0, slots, rows), *more)


class ProgramsTest(unittest.TestCase):
    def test_steps_are_those_of_the_program(self):
        for program in PROGRAMS + random_programs(610, 150, is_program):
            code = compiled(program)
            number_of_steps = len(steps(program, 150))
            for most in {0, 1, number_of_steps, max(number_of_steps - 1, 0), number_of_steps + 1, 150}:
                self.assertEqual(code_steps(code, most), steps(program, most))
                self.assertEqual(run_code(code, most), run(program, most))
                self.assertEqual(list(run_code(code, most)[2]), KINDS)

    def test_thousands_of_calls_in_last_places(self):
        for program in (counted_down(9000, number(5)), loop(4000, name("v")), ENDLESS, summed(3000)):
            code = compiled(program)
            self.assertEqual(run_code(code, 100000), run(program, 100000))
        self.assertEqual(code_steps(compiled(ENDLESS), 100000), steps(ENDLESS, 100000))
        self.assertEqual(returned(compiled(counted_down(5000, number(5))), 100000), [])

    def test_works_of_30_and_31_digits(self):
        most = 10 ** 30 - 1
        for word, one, other in (("plus", most, 0), ("plus", most, 1), ("minus", -most, 0), ("minus", -most, 1),
                                 ("times", 10 ** 15, 10 ** 14), ("times", 10 ** 15, 10 ** 15), ("times", -10 ** 15, 10 ** 15),
                                 ("less", most, -most), ("same", most, most), ("minus", 2, 3), ("less", 2, 3), ("less", 3, 2)):
            code = first(number(one), number(other), ("work", word), RETURN)
            program = ("work", word, number(one), number(other))
            self.assertEqual(run_code(code, 9), run(program, 9))
        self.assertEqual(run_code(first(number(most), ONE, ("work", "plus"), RETURN), 9)[1], ("stuck",))

    def test_kept_places(self):
        self.assertEqual(run_code(compiled(ENTERED), 9), ((), number(5), counts(keep=1, look=1, hold=1, enter=1)))
        self.assertEqual(run_code(compiled(TWICE), 99)[1], number(8))


class OtherCodesTest(unittest.TestCase):
    def test_second_reading(self):
        for code in CODES_OF_NONE + random_codes(611, 300):
            plain = CodeReference(code, 60)
            most = len(plain.kinds)
            end = plain.end or ("more",)
            told = {kind: plain.kinds.count(kind) for kind in KINDS}
            self.assertEqual(code_steps(code, 60), tuple(plain.kinds))
            self.assertEqual(run_code(code, 60), (tuple(plain.shown), end, told))
            self.assertEqual(returned(code, 60), [plain.given.get(birth, 0) for birth in range(len(plain.frames))])
            for less in range(0, most, 7):
                cut = CodeReference(code, less)
                self.assertEqual(code_steps(code, less), tuple(plain.kinds[:less]))
                self.assertEqual(run_code(code, less)[:2], (tuple(cut.shown), ("more",)))
                self.assertEqual(returned(code, less), [cut.given.get(birth, 0) for birth in range(len(cut.frames))])

    def test_each_place_at_which_a_run_is_stuck(self):
        worths = {"number": (ONE,), "function": (("fun", 1, ()),), "pair": (ONE, TWO, ("pair",)),
                  "kept": (("keeplast", 2), ("slot", 2))}
        rows = {
            ("open", 0, 1): (("pair",), (ONE, RETURN)), ("choose", None): (("number",), (ONE, RETURN)),
            ("show",): (("number",), (RETURN,)), ("work", "plus"): (("number",), (RETURN,)),
            CALL: (("function", "kept"), (RETURN,)), LAST: (("function", "kept"), ()),
        }
        for row, (taken, behind) in rows.items():
            for sort, ahead in worths.items():
                with self.subTest(row=row, sort=sort):
                    more = (TWO,) if row[0] in ("work", "call", "last") else ()
                    place = len(ahead) + len(more) + 1
                    told = ("choose", place) if row[0] == "choose" else row
                    code = first(*ahead, *more, told, *behind)
                    found = run_code(code, 99)
                    self.assertEqual(found[1] == ("stuck",), sort not in taken)
                    if sort not in taken:
                        self.assertEqual(len(code_steps(code, 99)), place - 1)
        upper = first(ONE, ("fun", 1, ()), ("work", "plus"), RETURN)
        self.assertEqual(run_code(upper, 9), ((), ("stuck",), counts(hold=2)))

    def test_stuck_is_no_step(self):
        code = first(ONE, ("open", 0, 1), ONE, RETURN)
        self.assertEqual(run_code(code, 0), ((), ("more",), counts()))
        self.assertEqual(run_code(code, 1), ((), ("stuck",), counts(hold=1)))
        self.assertEqual(run_code(code, 2), ((), ("stuck",), counts(hold=1)))

    def test_order_of_two_worths(self):
        self.assertEqual(run_code(first(number(7), number(2), ("work", "minus"), RETURN), 9)[1], number(5))
        code = first(number(7), number(2), ("pair",), ("open", 2, 0), ("slot", 2), ("show",), ("slot", 0), ("show",),
                     ("work", "minus"), RETURN)
        self.assertEqual(run_code(code, 99)[:2], ((7, 2), number(5)))

    def test_jumps_that_come_together(self):
        for n, end in ((0, 4), (1, 3), (-5, 3)):
            code = first(number(n), ("choose", 4), number(3), ("go", 5), number(4), ("let", 1), ("slot", 1), RETURN)
            self.assertEqual(run_code(code, 9)[1], number(end))
            self.assertEqual(code_steps(code, 9), ("hold", "choose", "hold", "let", "look"))

    def test_rows_to_which_no_way_comes(self):
        code = first(("go", 3), ("slot", 2), LAST, ONE, ("go", 6), ("pair",), RETURN, ("drop", 1), LAST)
        self.assertEqual(run_code(code, 9), ((), ONE, counts(hold=1)))

    def test_slots_used_anew(self):
        code = first(ONE, ("let", 0), TWO, ("let", 0), ("slot", 0), ("drop", 0), ("def", 1, (), 0), ("slot", 0), ("pair",),
                     ("open", 1, 0), ("slot", 1), RETURN)
        self.assertEqual(run_code(code, 99)[1], TWO)

    def test_worths_on_the_pile_below_a_kept_place(self):
        # 7 waits on the pile below the kept place, and lies there again when it is entered with 1.
        code = ((0, 3, (number(7), ("keep", 0, 4), ("slot", 0), RETURN, ("let", 1), ("show",), ("let", 2), ("slot", 1), ONE,
                        LAST)),)
        self.assertEqual(run_code(code, 99), ((7, 7), ("stuck",), counts(hold=3, keep=1, look=3, let=4, show=2, enter=1)))
        self.assertEqual(returned(code, 99), [2])

    def test_a_slot_has_its_old_worth_behind_a_keep(self):
        code = first(ONE, ("let", 0), ("keep", 0, 4), RETURN, ("let", 1), ("slot", 0), RETURN)
        self.assertEqual(run_code(first(ONE, ("let", 0), ("keep", 0, 5), ("slot", 0), RETURN, ("let", 1), ("slot", 0), RETURN),
                                  99)[1], ONE)
        self.assertRaises(Misfit, run_code, code, 9)

    def test_a_function_of_any_block(self):
        # Block 1 makes functions of block 2 that has itself and what it holds as picks.
        code = ((0, 1, (ONE, ("fun", 1, ()), TWO, CALL, ("let", 0), ("slot", 0), number(5), CALL, ("pair",), RETURN)),
                (0, 1, (("fun", 2, (("self",), ("slot", 0))), RETURN)),
                (2, 1, (("held", 0), ("held", 1), ("slot", 0), ("work", "plus"), ("pair",), RETURN)))
        self.assertEqual(run_code(code, 99)[1], ("pair",))
        self.assertEqual(returned(code, 99), [1, 1])


class MachineTest(unittest.TestCase):
    def test_moment_by_moment(self):
        for code in CODES_OF_PROGRAMS[:60] + CODES_OF_NONE[::3]:
            plain = CodeReference(code, 40)
            machine = CodeMachine(code)
            for moment, kind in enumerate(plain.kinds):
                self.assertEqual((machine.moment, machine.ahead(), machine.end()), (moment, kind, None))
                self.assertEqual(machine.shown(), plain.shown_at[moment])
                self.assertEqual(machine.counts(), run_code(code, moment)[2])
                self.assertIs(machine.step(), True)
            self.assertEqual((machine.moment, machine.shown()), (len(plain.kinds), tuple(plain.shown)))
            self.assertEqual(machine.end(), plain.end)
            if plain.end is not None:
                self.assertIsNone(machine.ahead())
                for _ in range(3):
                    self.assertIs(machine.step(), False)
                    self.assertEqual((machine.moment, machine.shown(), machine.end(), machine.counts(), machine.ahead()),
                                     (len(plain.kinds), tuple(plain.shown), plain.end, run_code(code, 99)[2], None))

    def test_two_machines_by_turns(self):
        one, other = CodeMachine(compiled(TWICE)), CodeMachine(code=compiled(loop(2, ("show", name("v")))))
        while one.step() or other.step():
            other.step()
        self.assertEqual((one.end(), one.counts()), run_code(compiled(TWICE), 99)[1:])
        self.assertEqual((other.shown(), other.end()), ((0,), number(0)))

    def test_what_is_told_is_new(self):
        machine = CodeMachine(compiled(TWICE))
        machine.counts()["hold"] = 9
        self.assertEqual(machine.counts(), counts())
        self.assertEqual((machine.moment, machine.shown()), (0, ()))
        run_code(compiled(TWICE), 9)[2].clear()
        returned(compiled(TWICE), 9).clear()
        self.assertEqual(returned(compiled(TWICE), 9), [1])

    def test_it_is_equal_to_nothing_else(self):
        machine = CodeMachine(compiled(TWICE))
        self.assertFalse(any(machine == value for value in (0, None, (), TWICE, CodeMachine(compiled(TWICE)))))
        with self.assertRaises(TypeError):
            iter(machine)


def kept_and_given(code, most):
    """How many frames all places kept or entered have, and how often frames of kept places are given a worth."""
    pile = Recorder()
    run_over(code, most, pile)
    return pile.sizes, pile.given_marked


class Recorder(Shared):
    """A pile that counts what the document says the others copy."""

    def __init__(self):
        super().__init__()
        self.sizes = 0
        self.given_marked = 0
        self.marked_once = set()

    def kept(self):
        self.sizes += self.size()
        self.marked_once |= set(self.births())
        return super().kept()

    def enter(self, mark):
        super().enter(mark)
        self.sizes += self.size()

    def pop(self):
        self.given_marked += self.top() in self.marked_once
        return super().pop()


class PilesTest(unittest.TestCase):
    def test_each_pile_tells_the_same(self):
        for code in CODES_OF_PROGRAMS + CODES_OF_NONE + random_codes(620, 100):
            for most in (0, 5, 80):
                told = run_code(code, most)
                given = returned(code, most)
                piles = [Copied(), Shared(), Split(), Led(given)]
                for pile in piles:
                    self.assertEqual(run_over(code, most, pile), told)
                sizes, marked = kept_and_given(code, most)
                once = len([times for times in given if times])
                self.assertEqual([pile.copied for pile in piles], [sizes, 0, marked, sum(given) - once])
                self.assertEqual(piles[0].births(), piles[1].births())

    def test_led_with_one_due_less(self):
        tried = 0
        for code in CODES_OF_PROGRAMS + CODES_OF_NONE:
            given = returned(code, 60)
            for birth in [birth for birth, times in enumerate(given) if times][:4]:
                dues = [times - (at == birth) for at, times in enumerate(given)]
                with self.assertRaises(Gone) as caught:
                    run_over(code, 60, Led(dues))
                self.assertEqual((caught.exception.word, caught.exception.birth), ("frame", birth))
                tried += 1
        self.assertGreater(tried, 100)

    def test_led_with_more_dues(self):
        code = compiled(TWICE)
        self.assertEqual(run_over(code, 99, Led([9] * 50)), run_code(code, 99))
        self.assertRaises(Gone, run_over, code, 99, Led([]))
        self.assertEqual(run_over(code, 1, Led([])), run_code(code, 1))

    def test_a_worth_given_at_once_behind_the_last_step_done(self):
        code = compiled(("show", call(IDENTITY, ONE)))
        self.assertEqual(code_steps(code, 9), ("hold", "hold", "call", "look", "show"))
        self.assertEqual([returned(code, most) for most in (2, 3, 4, 5)], [[], [0], [1], [1]])
        self.assertEqual(run_over(code, 3, Led([0])), run_code(code, 3))
        self.assertRaises(Gone, run_over, code, 4, Led([0]))

    def test_no_pile(self):
        code = compiled(TWICE)
        for pile in [None, 0, [], (), "Led", {}, Copied, code, CodeMachine(code)]:
            self.assertRaises(BadPile, run_over, code, 9, pile)
        self.assertEqual(run_over(pile=Shared(), most=9, code=code), run_code(code, 9))


class BillTest(unittest.TestCase):
    def places(self, e, tree, last, found):
        """The m of calls that are not last, and how often keeps that are not last return."""
        word = e[0]
        if word == "fun":
            for kid in tree[1]:
                if kid is not None:
                    self.places(e[2], kid, True, found)
        elif word == "def":
            for kid in tree[1]:
                if kid is not None:
                    self.places(e[3], kid, True, found)
            self.places(e[4], tree[2], last, found)
        elif word == "keep":
            if not last:
                found.append(many(tree))
            self.places(e[2], tree[2], True, found)
        elif word in ("call", "work", "pair", "let", "open", "choose", "show"):
            self.places(e[2] if word in ("let", "work") else e[1], tree[1], False, found)
            for row in tree[2]:
                if word == "call":
                    self.places(e[2], row[0], False, found)
                    found += [act[2] for act in row[1] if act[0] == "called" and not last]
                elif word == "work":
                    self.places(e[3], row[0], False, found)
                elif word == "pair":
                    self.places(e[2], row, False, found)
                elif word == "let":
                    self.places(e[3], row, last, found)
                elif word == "open":
                    self.places(e[4], row, last, found)
                elif word == "choose":
                    self.places(e[2] if row[0] else e[3], row[1], last, found)

    def test_returned_is_told_by_the_bill(self):
        tried = 0
        for program in PROGRAMS + random_programs(630, 150, is_program):
            try:
                found = bill(program)
            except TooMany:
                continue
            if found is not None:
                told = []
                self.places(program, found[1], True, told)
                self.assertEqual(sorted(returned(compiled(program), 400)), sorted(told))
                tried += max(told, default=0) > 1
        self.assertGreater(tried, 5)

    def test_by_hand(self):
        self.assertEqual(returned(compiled(TWICE), 99), [2])
        self.assertEqual(returned(compiled(loop(3, name("v"))), 999), [4])
        self.assertEqual(returned(compiled(number(3)), 9), [])
        self.assertEqual(returned(compiled(("show", ("keep", "k", ("let", "a", call(name("k"), ONE), TWO)))), 99), [1])
        self.assertEqual(returned(compiled(("keep", "j", ("show", ("keep", "k", call(name("j"), ONE))))), 99), [0])
        self.assertEqual(returned(compiled(summed(3)), 999), [1, 1, 1])


class RefusedTest(unittest.TestCase):
    def test_refused(self):
        for told in (run_code, code_steps, returned):
            for value in [*ODD, NO_CODE]:
                self.assertRaises(BadCode, told, value, 5)
                self.assertRaises(BadCode, told, value, -1)
            for most in (5, None, -1):
                self.assertRaises(Misfit, told, MISFIT, most)
            for most in [*NO_WHOLES, -1, 100001]:
                self.assertRaises(BadMost, told, compiled(STUCK), most)
            told(most=100000, code=compiled(STUCK))

    def test_refused_by_run_over(self):
        for value in [*ODD, NO_CODE]:
            self.assertRaises(BadCode, run_over, value, -1, None)
        self.assertRaises(Misfit, run_over, MISFIT, -1, None)
        for most in [*NO_WHOLES, -1, 100001]:
            self.assertRaises(BadMost, run_over, compiled(STUCK), most, None)
        self.assertRaises(BadPile, run_over, compiled(STUCK), 100000, None)

    def test_refused_by_the_machine(self):
        for value in [*ODD, NO_CODE]:
            self.assertRaises(BadCode, CodeMachine, value)
        self.assertRaises(Misfit, CodeMachine, MISFIT)
        self.assertRaises(Misfit, CodeMachine, code=MISFIT)


if __name__ == "__main__":
    unittest.main()
