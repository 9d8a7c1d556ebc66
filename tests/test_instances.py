"""Promises 29 and 30: bills that stand in a bill, and parts exchanged."""

import unittest

from returnsdue.billing import bill
from returnsdue.errors import BadExpression, BadPath, BadProgram, NoBill, TooMany, Unlike
from returnsdue.instances import exchanged, instances, profile
from returnsdue.judging import is_bill, lines, needs
from returnsdue.stepper import Runner, Trail
from returnsdue.terms import is_program, part_at, paths, with_part
from tests.programs import (
    BY_HAND, ENDLESS, ENTERED, IDENTITY, STUCK, TWICE, call, counted_down, name, number, of_steps, of_tuples,
    random_programs,
)
from tests.test_judging import billed
from tests.values import ODD

LOOK = ("name",)
HOLD = ("number",)


def reads(n):
    return (("number", n),)


def part_by_part(tree):
    """A tree and all trees in it, each ahead of those in it, from left to right."""
    found = [tree]
    word = tree[0]
    if word in ("fun", "def"):
        inner = [kid for kid in tree[1] if kid is not None] + list(tree[2:])
    elif word == "keep":
        inner = [tree[2]]
    elif word == "choose":
        inner = [tree[1]] + [row[1] for row in tree[2]]
    elif word in ("call", "work"):
        inner = [tree[1]] + [row[0] for row in tree[2]]
    elif word in ("let", "open", "pair"):
        inner = [tree[1], *tree[2]]
    else:
        inner = list(tree[1:2])
    for part in inner:
        found += part_by_part(part)
    return found


class InstancesTest(unittest.TestCase):
    def test_by_hand(self):
        work = ("work", LOOK, ((HOLD, ((3, 3),)),))
        again = ("work", LOOK, ((HOLD, ((8, 3),)),))
        self.assertEqual(instances(TWICE, (4, 1)),
                         [((reads(1),), {"v": reads(3)}, work), ((reads(0),), {"v": reads(8)}, again)])
        self.assertEqual(instances(ENTERED, ()), [(((("end", number(5)),),), {}, bill(ENTERED)[1])])
        self.assertEqual(instances(("choose", number(1), number(2), number(3)), (3,)), [])
        entered = (("enter", (("end", number(5)),)),)
        self.assertEqual(instances(ENTERED, (2, 1)), [((entered,), {"k": entered}, LOOK)])

    def test_needs_ascend(self):
        program = ("let", "b", number(1), ("let", "a", number(2), ("work", "plus", name("b"), name("a"))))
        (_, needed, _), = instances(program, (3, 3))
        self.assertEqual(list(needed), ["a", "b"])

    def test_kids_stand_ahead_of_the_last_part(self):
        program = ("def", "y", "x", name("x"), ("work", "plus", call(name("y"), number(1)), call(name("y"), number(2))))
        self.assertEqual([returns for returns, _, _ in instances(program, (3,))], [(reads(1),), (reads(2),)])
        program = ("let", "f", ("fun", "x", ("show", name("x"))), (
            "work", "plus", number(0), ("work", "minus", call(name("f"), number(1)), call(name("f"), number(2)))))
        self.assertEqual([tree[2] for _, _, tree in instances(program, (2, 2))], [(1,), (2,)])

    def test_all_bills_stand_in_order(self):
        for program, value in billed(BY_HAND + random_programs(29, 60, is_program)):
            everywhere = profile(program)
            self.assertEqual(list(everywhere), paths(program))
            parts = part_by_part(value[1])
            self.assertEqual(sum(everywhere.values()), len(parts))
            for path, many in everywhere.items():
                found = instances(program, path)
                self.assertEqual(len(found), many)
                place = 0
                for returns, needed, tree in found:
                    self.assertEqual(needs(part_at(program, path), returns, tree), needed)
                    place = parts.index(tree, place) + 1

    def test_profile_by_hand(self):
        self.assertEqual(profile(ENTERED), {(): 1, (2,): 1, (2, 1): 1, (2, 2): 1})
        found = profile(TWICE)
        self.assertEqual((found[(1,)], found[(4,)], found[(4, 1, 3)], found[(4, 2)], found[(4, 3)]), (1, 2, 2, 1, 1))
        found = profile(counted_down(5, number(7)))
        self.assertEqual((found[(3,)], found[(3, 2)], found[(3, 3)], found[(4,)]), (6, 5, 1, 1))

    def test_so_often_an_expression_is_begun(self):
        for program, _ in billed(BY_HAND + random_programs(30, 60, is_program)):
            runner = Runner(program, Trail())
            while runner.step():
                pass
            begun = [node.path for word, node, _ in runner.trail.log if word == "begin"]
            self.assertEqual(profile(program), {path: begun.count(path) for path in paths(program)})

    def test_results_are_new(self):
        instances(TWICE, (4, 1))[0][1].clear()
        self.assertEqual(instances(TWICE, (4, 1))[0][1], {"v": reads(3)})

    def test_refused(self):
        for value in ODD:
            self.assertRaises(BadProgram, instances, value, 7)
            self.assertRaises(BadProgram, profile, value)
        for program in (ENDLESS, STUCK, TWICE):
            self.assertRaises(BadPath, instances, program, (7,))
            self.assertRaises(BadPath, instances, program, [4])
        self.assertRaises(NoBill, instances, STUCK, ())
        self.assertRaises(NoBill, profile, STUCK)
        large = of_tuples(20001, bill)
        for program, most in ((ENDLESS, 400), (of_steps(401), 400), (large, 20000)):
            for asked in (lambda: instances(program, ()), lambda: profile(program), lambda: exchanged(program, (), number(1))):
                with self.assertRaises(TooMany) as caught:
                    asked()
                self.assertEqual(caught.exception.most, most)
        self.assertEqual(sum(profile(of_steps(400)).values()), len(part_by_part(bill(of_steps(400))[1])))
        self.assertEqual(len(instances(of_tuples(20000, bill), ())), 1)

    def test_by_name(self):
        self.assertEqual(instances(path=(), program=number(1)), [(((("end", number(1)),),), {}, HOLD)])
        self.assertEqual(profile(program=number(1)), {(): 1})
        self.assertEqual(exchanged(part=number(1), path=(), program=number(1)), ((number(1), HOLD), 0))


class ExchangedTest(unittest.TestCase):
    def test_there_and_back(self):
        program = ("let", "x", number(4), ("show", ("work", "plus", name("x"), name("x"))))
        other = ("work", "minus", name("x"), ("work", "minus", number(0), name("x")))
        found, more = exchanged(program, (3, 1), other)
        changed = with_part(program, (3, 1), other)
        self.assertEqual((found, more), (bill(changed), 2))
        self.assertEqual(exchanged(changed, (3, 1), program[3][1]), (bill(program), -2))

    def test_the_same_part(self):
        for program, value in billed(BY_HAND):
            for path in paths(program):
                self.assertEqual(exchanged(program, path, part_at(program, path)), (value, 0))

    def test_a_part_that_is_never_begun(self):
        program = ("choose", number(1), number(2), number(3))
        self.assertEqual(exchanged(program, (3,), ("show", number(9))), (bill(program), 0))

    def test_in_all_instances(self):
        program = counted_down(3, number(7))
        other = ("work", "plus", number(-1), name("x"))
        found, more = exchanged(program, (3, 2, 2), other)
        self.assertEqual(more, 0)
        self.assertIs(is_bill(with_part(program, (3, 2, 2), other), found), True)
        self.assertEqual(exchanged(program, (3, 3), ("work", "plus", number(3), number(4)))[1], 2)

    def test_unlike(self):
        program = ("let", "x", number(4), ("show", ("work", "plus", name("x"), name("x"))))
        for path, part in (
            ((3, 1), number(8)), ((3, 1), number(9)), ((3, 1), ("work", "times", name("x"), number(2))),
            ((2,), number(5)), ((), number(9)), ((3,), ("show", number(8))), ((3, 1, 2), number(4)),
        ):
            with self.subTest(path=path, part=part):
                self.assertRaises(Unlike, exchanged, program, path, part)

    def test_a_whole_program(self):
        self.assertEqual(exchanged(("show", number(3)), (), number(3)), ((number(3), HOLD), -1))
        self.assertEqual(exchanged(number(3), (), ("work", "plus", number(1), number(2))),
                         (bill(("work", "plus", number(1), number(2))), 2))
        self.assertRaises(Unlike, exchanged, number(3), (), IDENTITY)
        self.assertEqual(exchanged(IDENTITY, (), ("fun", "y", ("show", name("y")))), ((("function",), ("fun", (None,))), 0))

    def test_order_of_needs_matters(self):
        fun = ("fun", "z", name("z"))
        used = ("work", "plus", call(name("f"), number(1)), call(name("f"), number(2)))
        program = ("let", "f", fun, ("show", used))
        swapped = ("work", "plus", call(name("f"), number(2)), call(name("f"), number(1)))
        self.assertRaises(Unlike, exchanged, program, (3, 1), swapped)

    def test_as_its_words_tell(self):
        for program, value in billed(BY_HAND):
            for path in paths(program):
                for part in (number(1), ("show", part_at(program, path)), ("let", "q", number(0), part_at(program, path))):
                    made = with_part(program, path, part)
                    try:
                        found, more = exchanged(program, path, part)
                    except Unlike:
                        old, new = instances(program, path), instances(made, path)
                        self.assertNotEqual([one[:2] for one in old], [one[:2] for one in new])
                        continue
                    except (NoBill, TooMany, BadExpression):
                        continue
                    self.assertEqual(found, bill(made))
                    self.assertEqual(more, sum(lines(found[1]).values()) - sum(lines(value[1]).values()))
                    old, new = instances(program, path), instances(made, path)
                    self.assertEqual([one[:2] for one in old], [one[:2] for one in new])
                    for one, many in profile(program).items():
                        if one[:len(path)] != path:
                            self.assertEqual(profile(made)[one], many)

    def test_refused(self):
        for value in ODD:
            self.assertRaises(BadProgram, exchanged, value, 7, 7)
            self.assertRaises(BadExpression, exchanged, TWICE, (), value)
            self.assertRaises(BadExpression, exchanged, STUCK, (), value)
        self.assertRaises(BadPath, exchanged, TWICE, (7,), 7)
        self.assertRaises(BadPath, exchanged, STUCK, (7,), number(1))
        self.assertRaises(BadExpression, exchanged, TWICE, (), name("x"))
        self.assertRaises(BadExpression, exchanged, ENDLESS, (4,), name("z"))
        row = number(1)
        for _ in range(58):
            row = ("show", row)
        self.assertRaises(BadExpression, exchanged, ("show", ("show", number(1))), (1, 1), row)
        self.assertRaises(NoBill, exchanged, STUCK, (2,), number(7))
        self.assertRaises(NoBill, exchanged, number(1), (), STUCK)
        self.assertRaises(NoBill, exchanged, STUCK, (), ENDLESS)
        self.assertRaises(TooMany, exchanged, ENDLESS, (), STUCK)
        self.assertRaises(TooMany, exchanged, number(1), (), ENDLESS)


if __name__ == "__main__":
    unittest.main()
