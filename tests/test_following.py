"""Promises 71 to 73 and 78: programs translated into ones without keep, and back."""

import string
import unittest

from returnsdue.errors import BadFollowing, BadMost, BadProgram, TooMany
from returnsdue.following import back, following, moments_following, spare
from returnsdue.running import run, state, steps
from returnsdue.stepper import Runner
from returnsdue.terms import is_program, paths, renamed
from tests.programs import (
    BY_HAND, ENDLESS, ENTERED, IDENTITY, STUCK, TWICE, call, chained, counted_down, exchanged_at, loop, name, number, part_of,
    paths_of, random_programs, returning_programs, summed, variants)
from tests.values import NO_WHOLES, ODD

FIVE = number(5)
PROGRAMS = BY_HAND + [ENDLESS, STUCK] + random_programs(71, 220, is_program) + returning_programs(71, 30, is_program)
BLOCKS = {
    "look": "look look call", "hold": "look hold call", "let": "", "def": "def", "keep": "hold hold call", "open": "look open",
    "choose": "look choose", "show": "look look show call", "work": "look look look work call",
    "call": "look look call hold look call", "enter": "look look call hold look call look look call",
}
ROW = list(string.ascii_lowercase) + [one + other for one in string.ascii_lowercase for other in string.ascii_lowercase]


def plain(e, c, v, w):
    """The translation of a part, written out as the document tells it."""
    def t(part):
        return plain(part, c, v, w)

    def fun(x, body):
        return ("fun", x, body)

    cc, vv, ww = ("name", c), ("name", v), ("name", w)
    word = e[0]
    if word in ("name", "number"):
        return call(cc, e)
    if word == "fun":
        return call(cc, fun(e[1], fun(c, t(e[2]))))
    if word == "def":
        return ("def", e[1], e[2], fun(c, t(e[3])), t(e[4]))
    if word == "keep":
        return call(fun(e[1], t(e[2])), fun(w, fun(v, call(cc, ww))))
    if word == "let":
        return call(fun(c, t(e[2])), fun(e[1], t(e[3])))
    if word == "open":
        return call(fun(c, t(e[1])), fun(v, ("open", vv, e[2], e[3], t(e[4]))))
    if word == "choose":
        return call(fun(c, t(e[1])), fun(v, ("choose", vv, t(e[2]), t(e[3]))))
    if word == "show":
        return call(fun(c, t(e[1])), fun(v, call(cc, ("show", vv))))
    one, other = (e[2], e[3]) if word == "work" else (e[1], e[2])
    last = {
        "call": call(call(vv, ww), cc), "work": call(cc, ("work", e[1], vv, ww)), "pair": call(cc, ("pair", vv, ww)),
    }[word]
    return call(fun(c, t(one)), fun(v, call(fun(c, t(other)), fun(w, last))))


def plain_spare(program):
    text = repr(program)
    return tuple([x for x in ROW if f"'{x}'" not in text][:3])


def plain_following(program):
    c, v, w = plain_spare(program)
    return call(("fun", c, plain(program, c, v, w)), ("fun", v, ("name", v)))


def size(e):
    """How many nodes, and how many the longest row has."""
    inner = [size(part) for part in e if isinstance(part, tuple)]
    return (1 + sum(nodes for nodes, _ in inner), 1 + max([row for _, row in inner], default=0))




class SpareTest(unittest.TestCase):
    def test_by_hand(self):
        self.assertEqual(spare(FIVE), ("a", "b", "c"))
        self.assertEqual(spare(program=("fun", "b", name("b"))), ("a", "c", "d"))
        self.assertEqual(spare(("fun", "a", ("fun", "c", FIVE))), ("b", "d", "e"))
        self.assertEqual(spare(("def", "d", "a", FIVE, FIVE)), ("b", "c", "e"))
        self.assertEqual(spare(("open", FIVE, "c", "b", FIVE)), ("a", "d", "e"))
        self.assertEqual(spare(("let", "aa", FIVE, ("keep", "b", FIVE))), ("a", "c", "d"))

    def test_many_names(self):
        for names, wanted in ((ROW[:24], ("y", "z", "aa")), (ROW[:26], ("aa", "ab", "ac")), (ROW[:25], ("z", "aa", "ab")),
                              (ROW[:26] + ["ab"], ("aa", "ac", "ad")), (ROW[:53], ("bb", "bc", "bd")), (ROW[1:26], ("a", "aa", "ab")),
                              (ROW[:52], ("ba", "bb", "bc"))):
            e = number(1)
            for x in names:
                e = ("let", x, number(0), e) if len(names) < 55 and size(e)[1] < 58 else e
            self.assertEqual(spare(e), wanted)
            self.assertEqual(spare(e), plain_spare(e))

    def test_each_program(self):
        for program in PROGRAMS:
            self.assertEqual(spare(program), plain_spare(program))


class FollowingTest(unittest.TestCase):
    def test_by_hand(self):
        self.assertEqual(following(FIVE), call(("fun", "a", call(name("a"), FIVE)), ("fun", "b", name("b"))))
        self.assertEqual(following(program=("show", FIVE)), call(("fun", "a", call(
            ("fun", "a", call(name("a"), FIVE)), ("fun", "b", call(name("a"), ("show", name("b")))))), ("fun", "b", name("b"))))

    def test_second_reading(self):
        many = 0
        for program in PROGRAMS:
            wanted = plain_following(program)
            nodes, row = size(wanted)
            if nodes <= 400 and row <= 60:
                found = following(program)
                self.assertEqual(found, wanted)
                self.assertTrue(is_program(found))
                self.assertNotIn("'keep'", repr(found))
                self.assertEqual(back(found), program)
                many += 1
            else:
                with self.assertRaises(TooMany) as caught:
                    following(program)
                self.assertEqual(caught.exception.most, 400 if nodes > 400 else 60)
        self.assertGreater(many, 200)

    def refused(self, program, most):
        with self.assertRaises(TooMany) as caught:
            following(program)
        self.assertEqual(caught.exception.most, most)

    def test_limits(self):
        shows = {many: chained(many) for many in range(70)}
        # A show adds two nodes to the longest row, and eight to all.
        longest = max(many for many in shows if many < 59 and size(plain_following(shows[many]))[1] <= 60)
        self.assertEqual(size(plain_following(shows[longest]))[1] in (59, 60), True)
        self.assertEqual(following(shows[longest]), plain_following(shows[longest]))
        self.refused(shows[longest + 1], 60)
        self.refused(shows[58], 400)
        wide = number(0)
        wide = {many: self.pairs(many) for many in range(1, 60)}
        fitting = max(many for many in wide if size(plain_following(wide[many]))[0] <= 400)
        self.assertEqual(following(wide[fitting]), plain_following(wide[fitting]))
        self.refused(wide[fitting + 1], 400)

    def test_just_the_limits(self):
        # 7 nodes for a number, 14 more for each pair, and 5 more for each def.
        found = {}
        for many in range(1, 60):
            for defs in range(20):
                e = self.pairs(many)
                for _ in range(defs):
                    e = ("def", "y", "x", number(1), e)
                if size(plain_following(e))[1] <= 60:
                    found[size(plain_following(e))[0]] = e
        for nodes in (399, 400):
            self.assertEqual(following(found[nodes]), plain_following(found[nodes]))
        for nodes in (401, 402):
            self.refused(found[nodes], 400)
        # Rows of just 60 nodes, and of one more.
        rows = {}
        for shows in range(20, 32):
            for funs in range(8):
                e = chained(shows)
                for _ in range(funs):
                    e = ("fun", "x", e)
                if size(plain_following(e))[0] <= 400:
                    rows[size(plain_following(e))[1]] = e
        self.assertEqual(following(rows[60]), plain_following(rows[60]))
        self.refused(rows[61], 60)

    @staticmethod
    def pairs(many):
        """A tree of pairs that is not deep."""
        row = [number(at) for at in range(many)]
        while len(row) > 1:
            row = [("pair", *row[at:at + 2]) if at + 1 < len(row) else row[at] for at in range(0, len(row), 2)]
        return row[0]


class RunsTest(unittest.TestCase):
    def translated_runner(self, program):
        return Runner(plain_following(program))

    def test_the_same_is_shown_and_the_end_is_the_same(self):
        ends = set()
        for program in PROGRAMS:
            shown, end, _ = run(program, 300)
            runner = self.translated_runner(program)
            while runner.moment < 300 * 20 and runner.step():
                pass
            if end == ("more",):
                self.assertEqual(tuple(runner.numbers)[:len(shown)], shown)
                self.assertIsNone(runner.ended if program == ENDLESS else None)
                continue
            ends.add(end[0])
            self.assertEqual(tuple(runner.numbers), shown)
            self.assertEqual(runner.ended, ("function",) if end == ("kept",) else end)
        self.assertEqual(ends, {"number", "function", "pair", "kept", "stuck"})

    def test_blocks(self):
        for program in PROGRAMS:
            kinds = steps(program, 60)
            moments = moments_following(program, 60)
            self.assertEqual((len(moments), moments[0]), (len(kinds) + 1, 3))
            runner = self.translated_runner(program)
            while runner.moment < moments[-1] + 60 and runner.step():
                pass
            found = runner.kinds
            self.assertEqual(found[:3], ["hold", "hold", "call"])
            for at, kind in enumerate(kinds):
                block = BLOCKS[kind].split()
                control, top, frames, _, _ = state(program, at)
                if control[0] == "with" and frames[top][0] == "pair2":
                    block = "look look look hold call".split()
                between = found[moments[at]:moments[at + 1] - len(block)]
                self.assertEqual(between, ["hold", "hold", "call"] * (len(between) // 3))
                self.assertEqual(found[moments[at + 1] - len(block):moments[at + 1]], block)
            end = run(program, 60)[1]
            if end[0] not in ("more", "stuck"):
                self.assertEqual(found[moments[-1]:], ["look"])
            if end[0] == "stuck":
                self.assertEqual(runner.ended, ("stuck",))

    def test_followers_are_made_where_they_stand(self):
        # Each difference of two moments tells how many parts were begun, or given a worth, between two steps.
        program = ("show", ("work", "plus", ("let", "x", number(1), name("x")), number(2)))
        # hold let look hold work show: three begun ahead of the first step; work1 is given a worth behind look.
        self.assertEqual(steps(program, 99), ("hold", "let", "look", "hold", "work", "show"))
        self.assertEqual(moments_following(program, 99), (3, 15, 15, 18, 24, 29, 33))
        self.assertEqual(sum(run(following(program), 999)[2].values()), 34)

    def test_what_is_shown_at_the_moments(self):
        for program in [e for e in PROGRAMS if "'show'" in repr(e)] + [chained(9)]:
            moments = moments_following(program, 40)
            runner = self.translated_runner(program)
            for at, moment in enumerate(moments):
                while runner.moment < moment:
                    self.assertTrue(runner.step())
                self.assertEqual(tuple(runner.numbers), run(program, at)[0])

    def test_most(self):
        for program in (TWICE, ENTERED, STUCK, chained(57), loop(4, name("v")), summed(3)):
            last = len(steps(program, 400))
            whole = moments_following(program, last)
            self.assertEqual(moments_following(program, 0), (3,))
            self.assertEqual(moments_following(program, last - 1), whole[:-1])
            self.assertEqual(moments_following(program, last + 1), whole)
            self.assertEqual(moments_following(most=100000, program=program), whole)
            self.assertEqual(len(whole), last + 1)
        self.assertEqual(moments_following(FIVE, 9), (3, 6))
        self.assertRaises(TooMany, following, chained(57))

    def test_long_runs(self):
        found = moments_following(ENDLESS, 100000)
        self.assertEqual(len(found), 100001)
        # look, look, call: a call is begun and its first worth is given ahead of these.
        self.assertEqual({found[at + 3] - found[at] for at in range(5, 90000, 3)}, {3 + 3 + 3 + 3 + 6})

    def test_translated_twice(self):
        for program in (FIVE, ENTERED, ("keep", "k", name("k")), call(IDENTITY, FIVE)):
            once = following(program)
            if size(plain_following(once))[0] > 400 or size(plain_following(once))[1] > 60:
                continue
            twice = following(once)
            self.assertEqual(back(back(twice)), program)
            shown, end, _ = run(program, 99)
            self.assertEqual(run(twice, 9999)[:2], (shown, ("function",) if end == ("kept",) else end))


class BackTest(unittest.TestCase):
    def test_no_translations(self):
        for program in [FIVE, IDENTITY, call(IDENTITY, IDENTITY), TWICE, ENTERED, call(FIVE, FIVE), call(IDENTITY, FIVE), call(FIVE, IDENTITY),
                        call(("fun", "a", FIVE), ("fun", "b", name("b"))), call(("fun", "a", name("a")), ("fun", "b", name("b"))),
                        call(("fun", "a", call(name("a"), name("a"))), ("fun", "b", name("b"))), *BY_HAND]:
            self.assertRaises(BadFollowing, back, program)
        self.assertEqual(back(program=following(FIVE)), FIVE)

    def test_other_spare_names(self):
        for program in (FIVE, ("show", FIVE), call(IDENTITY, FIVE), ENTERED):
            c, v, w = plain_spare(program)
            for names in ((c, w, v), (v, c, w), (w, v, c), ("q", v, w), (c, "q", w), (c, v, "q"), (c, c, w), (c, v, v)):
                other = call(("fun", names[0], plain(program, *names)), ("fun", names[1], ("name", names[1])))
                if is_program(other) and other != following(program):
                    self.assertRaises(BadFollowing, back, other)

    def test_names_renamed(self):
        found = following(call(IDENTITY, ("pair", FIVE, ("keep", "k", name("k")))))
        for path in paths(found):
            part = part_of(found, path)
            for x in part[1:2] if part[0] in ("fun",) else []:
                for new in ("q", "x", "b"):
                    try:
                        other = renamed(found, path, x, new)
                    except ValueError:
                        continue
                    self.check(other)

    def check(self, program):
        """Whatever a program goes back to, its translation is the program."""
        try:
            found = back(program)
        except BadFollowing:
            return False
        self.assertTrue(is_program(found))
        self.assertEqual(plain_following(found), program)
        return True

    def test_one_part_exchanged(self):
        many = {True: 0, False: 0}
        for program in [FIVE, ENTERED, TWICE, counted_down(2, number(1)), ("show", ("work", "less", FIVE, FIVE)), *PROGRAMS[30:80]]:
            found = plain_following(program)
            if not is_program(found):
                continue
            places = paths_of(found)
            for path in places[::7]:
                for other in [FIVE, number(6), part_of(found, places[len(places) // 2]), ("show", FIVE), IDENTITY,
                              call(("name", plain_spare(program)[0]), FIVE)]:
                    changed = exchanged_at(found, path, other)
                    if is_program(changed):
                        many[self.check(changed)] += 1
        self.assertTrue(many[True] > 20 and many[False] > 500, many)

    def test_near_values(self):
        found = following(ENTERED)
        for value in variants(found):
            if is_program(value) and value != found:
                self.check(value)
            elif not is_program(value):
                self.assertRaises(BadProgram, back, value)


class RefusedTest(unittest.TestCase):
    def test_refused(self):
        for value in [*ODD, name("x"), ("fun", "x", name("y"))]:
            for told, given in ((spare, ()), (following, ()), (back, ()), (moments_following, (-1,))):
                self.assertRaises(BadProgram, told, value, *given)
        for most in [*NO_WHOLES, -1, 100001]:
            self.assertRaises(BadMost, moments_following, STUCK, most)


if __name__ == "__main__":
    unittest.main()
