"""Promises 106 and 107: pictures of runs, from which rows may be gone, and gone on with."""

import random
import unittest

from returnsdue.errors import BadBirths, BadMoment, BadMost, BadPicture, BadProgram, Gone, TooMany
from returnsdue.pictures import is_picture, onward, picture_at, rest, wanted, without
from returnsdue.running import run, state, steps
from returnsdue.terms import is_program
from tests.programs import (
    BY_HAND, ENDLESS, ENTERED, IDENTITY, STUCK, TWICE, call, chained, counted_down, loop, name, number, of_steps, random_programs,
    returning_programs, summed)
from tests.reference import LIMIT, Reference, at_path, free, worked
from tests.values import NO_WHOLES, ODD

STUCK_LATER = ("let", "x", ("show", number(1)), ("work", "plus", ("fun", "y", name("x")), name("x")))
STUCKS = [STUCK, STUCK_LATER, ("open", IDENTITY, "x", "y", number(1)), call(("pair", number(1), number(2)), number(3)), ("show", IDENTITY),
          ("choose", ("keep", "k", name("k")), number(1), number(2)), ("work", "times", number(10 ** 29), number(10)),
          ("open", number(1), "x", "y", number(1)), ("show", ("open", IDENTITY, "x", "y", number(1)))]
PROGRAMS = BY_HAND + STUCKS + [ENDLESS, summed(5), chained(5)] + random_programs(106, 100, is_program) + returning_programs(106, 20, is_program)
KINDS = {"call1": "call", "call2": "call", "let": "let", "open": "open", "choose": "choose", "work1": "work", "work2": "work", "show": "show",
         "pair1": "pair", "pair2": "pair"}


def is_birth(value, below):
    return type(value) is int and 0 <= value < below


class Judge:
    """Whether a value is a picture, by the rules of the document one behind the other."""

    def __init__(self, value):
        self.right = False
        try:
            program, moment, born, (control, top, frames, things, shown) = value
            kinds = [type(part) for part in (value, moment, born, value[3], control, frames, things, shown)]
        except (TypeError, ValueError, KeyError):
            return
        if kinds != [tuple, int, tuple, tuple, tuple, dict, dict, tuple] or not is_program(program) or moment < 0:
            return
        if len(born) != 2 or not all(type(many) is int and many >= 0 for many in born):
            return
        if not all(type(n) is int and abs(n) < LIMIT for n in shown):
            return
        self.program, self.born, self.frames, self.things = program, born, frames, things
        if top is not None and not is_birth(top, born[0]):
            return
        if not all(self.frame(birth, row) for birth, row in frames.items()) or not all(self.thing(*row) for row in things.items()):
            return
        self.right = self.control(control, top) and self.all_reached(control, top)

    def worth(self, value):
        if type(value) is not tuple or len(value) != 2 or value[0] not in ("number", "thing"):
            return False
        if value[0] == "number":
            return type(value[1]) is int and abs(value[1]) < LIMIT
        return is_birth(value[1], self.born[1])

    def names(self, value, wanted_names):
        if type(value) is not tuple or not all(type(pair) is tuple and len(pair) == 2 for pair in value):
            return False
        return [pair[0] for pair in value] == sorted(wanted_names) and all(self.worth(pair[1]) for pair in value)

    def node(self, path, words):
        if type(path) is not tuple:
            return None
        e = self.program
        for at in path:
            if type(at) is not int or not 0 <= at < len(e) or not isinstance(e[at], tuple):
                return None
            e = e[at]
        return e if e[0] in words else None

    def frame(self, birth, row):
        if not is_birth(birth, self.born[0]) or type(row) is not tuple or len(row) != 5:
            return False
        kind, path, names, worth, below = row
        if not isinstance(kind, str) or kind not in KINDS:
            return False
        e = self.node(path, [KINDS[kind]])
        if e is None or not (below is None or is_birth(below, birth)):
            return False
        wanted_names = set()
        if kind in ("call1", "pair1"):
            wanted_names = free(e[2])
        elif kind == "work1":
            wanted_names = free(e[3])
        elif kind == "let":
            wanted_names = free(e[3]) - {e[1]}
        elif kind == "open":
            wanted_names = free(e[4]) - {e[2], e[3]}
        elif kind == "choose":
            wanted_names = free(e[2]) | free(e[3])
        if not self.names(names, wanted_names):
            return False
        return self.worth(worth) if kind in ("call2", "work2", "pair2") else worth is None

    def thing(self, birth, row):
        if not is_birth(birth, self.born[1]) or type(row) is not tuple or not row:
            return False
        if row[0] == "function" and len(row) == 3:
            e = self.node(row[1], ["fun", "def"])
            if e is None:
                return False
            return self.names(row[2], free(e[2]) - {e[1]} if e[0] == "fun" else free(e[3]) - {e[2]})
        if row[0] == "pair" and len(row) == 3:
            return self.worth(row[1]) and self.worth(row[2])
        return row[0] == "kept" and len(row) == 2 and (row[1] is None or is_birth(row[1], self.born[0]))

    def control(self, control, top):
        if control[:1] == ("at",) and len(control) == 3:
            e = self.node(control[1], ["name", "number", "fun", "def", "keep"])
            return e is not None and self.names(control[2], free(e))
        if len(control) != 2:
            return False
        if control[0] == "end":
            end = control[1]
            if end == ("stuck",):
                return True
            plain = end in (("function",), ("pair",), ("kept",))
            told = type(end) is tuple and len(end) == 2 and end[0] == "number" and type(end[1]) is int and abs(end[1]) < LIMIT
            return (plain or told) and top is None and self.frames == {} and self.things == {}
        if control[0] != "with" or top is None or not self.worth(control[1]):
            return False
        return top not in self.frames or self.takes(self.frames[top], control[1])

    def sorts(self, worth):
        """The sorts that a worth may have."""
        if worth[0] == "number":
            return {"number"}
        return {self.things[worth[1]][0]} if worth[1] in self.things else {"function", "pair", "kept"}

    def takes(self, row, worth):
        kind, path, _, held, _ = row
        if kind in ("choose", "show"):
            return worth[0] == "number"
        if kind == "work2":
            both = worth[0] == held[0] == "number"
            return both and abs(worked(at_path(self.program, path)[1], held[1], worth[1])) < LIMIT
        if kind == "open":
            return "pair" in self.sorts(worth)
        if kind == "call2":
            return bool(self.sorts(held) & {"function", "kept"})
        return kind in ("let", "pair2")

    def all_reached(self, control, top):
        frames, things = set(), set()
        while True:
            tops = {top} | {self.frames[birth][4] for birth in frames} | {
                self.things[birth][1] for birth in things if self.things[birth][0] == "kept"}
            worths = [control[1]] if control[0] == "with" else [worth for _, worth in control[2]] if control[0] == "at" else []
            for birth in frames:
                worths += [worth for _, worth in self.frames[birth][2]] + [self.frames[birth][3] or ("number", 0)]
            for birth in things:
                row = self.things[birth]
                worths += [worth for _, worth in row[2]] if row[0] == "function" else row[1:] if row[0] == "pair" else []
            more_frames = {birth for birth in tops if birth in self.frames}
            more_things = {worth[1] for worth in worths if worth[0] == "thing" and worth[1] in self.things}
            if more_frames == frames and more_things == things:
                return frames == set(self.frames) and things == set(self.things)
            frames, things = more_frames | frames, more_things | things


class Rows(dict):
    """Rows, of which one that is missed is gone."""

    def __init__(self, word, rows):
        self.word = word
        self.met = []
        dict.__init__(self, rows)

    def __missing__(self, birth):
        raise Gone(self.word, birth)


class PlainResumed(Reference):
    """A picture gone on with, by the rules of the document."""

    def __init__(self, picture):
        self.program, self.moment, self.born, (control, self.top, frames, things, shown) = picture
        self.born = list(self.born)
        self.frames = Rows("frame", {birth: (row[0], row[1], dict(row[2]), *row[3:]) for birth, row in frames.items()})
        self.things = Rows("thing", {birth: (*row[:2], dict(row[2])) if row[0] == "function" else row for birth, row in things.items()})
        self.shown, self.kinds = tuple(shown), []
        self.returns, self.uses, self.states = [], [], []
        self.looked = []
        self.next = {"at": lambda: ("eval", control[1], dict(control[2])), "with": lambda: ("give", control[1]),
                     "end": lambda: ("end", control[1])}[control[0]]()

    def go_on(self, many):
        if many:
            self.settle()
        while self.next[0] != "end" and len(self.kinds) < many:
            self.step()
            self.settle()
        return self

    def frame(self, kind, path, names, worth):
        self.frames[self.born[0]] = (kind, path, names, worth, self.top)
        self.top = self.born[0]
        self.born[0] += 1

    def thing(self, *row):
        self.things[self.born[1]] = row
        self.born[1] += 1
        return ("thing", self.born[1] - 1)

    def look(self, worth):
        if worth[0] == "thing":
            self.looked.append(worth)
            self.things[worth[1]]

    def settle(self):
        if self.next[0] == "give" and self.top is None:
            self.look(self.next[1])
        Reference.settle(self)

    def pop(self):
        self.looked.append(("frame", self.top))
        return Reference.pop(self)

    def sort(self, worth):
        return "gone" if worth[0] == "thing" and worth[1] not in self.things else Reference.sort(self, worth)

    def takes(self, kind, e, held, worth):
        self.looked.append(("frame", self.top))
        if kind in ("open", "call2"):
            self.look(worth if kind == "open" else held)
        return Reference.takes(self, kind, e, held, worth)

    def state(self):
        """States are put together at the end."""

    def picture(self):
        control = {"eval": lambda: ("at", self.next[1], tuple(sorted(self.next[2].items()))), "give": lambda: ("with", self.next[1]),
                   "end": lambda: ("end", self.next[1])}[self.next[0]]()
        frames = {birth: (row[0], row[1], tuple(sorted(row[2].items())), *row[3:]) for birth, row in self.frames.items()}
        things = {birth: (*row[:2], tuple(sorted(row[2].items()))) if row[0] == "function" else row for birth, row in self.things.items()}
        return only_reached((self.program, self.moment + len(self.kinds), tuple(self.born), (control, self.top, frames, things, self.shown)))


def only_reached(picture):
    """A picture without the rows that cannot be reached; one by one they are left out."""
    program, moment, born, (control, top, frames, things, shown) = picture
    found = set()
    waiting = [("frame", top)] + ([control[1]] if control[0] == "with" else [worth for _, worth in control[2]] if control[0] == "at" else [])
    while waiting:
        word, birth = waiting.pop()
        row = {"frame": frames, "thing": things, "number": {}}[word].get(birth)
        if row is None or (word, birth) in found:
            continue
        found.add((word, birth))
        if word == "frame":
            waiting += [("frame", row[4])] + [worth for _, worth in row[2]] + ([row[3]] if row[3] else [])
        elif row[0] == "kept":
            waiting.append(("frame", row[1]))
        else:
            waiting += row[1:] if row[0] == "pair" else [worth for _, worth in row[2]]
    return (program, moment, born, (control, top, {birth: row for birth, row in frames.items() if ("frame", birth) in found},
                                    {birth: row for birth, row in things.items() if ("thing", birth) in found}, shown))


def gone_from(r, picture, many):
    """A picture from which some rows are gone."""
    _, _, _, (_, _, frames, things, _) = picture
    return without(picture, [birth for birth in frames if r.random() < many], [birth for birth in things if r.random() < many])


def told(act):
    """What a call returns, or the word and birth that it raises Gone with."""
    try:
        return act()
    except Gone as gone:
        return ("gone", gone.word, gone.birth)


def moments_of(r, program, many):
    last = len(steps(program, 60))
    return sorted({0, last, *[r.randint(0, last) for _ in range(many)]})


def changes(r, value, picture):
    """Values near a part of a picture: something in it left out, doubled, or exchanged for something of the same sort."""
    program, _, born, _ = picture
    found = [None, (), True, [], {}]
    if isinstance(value, bool) or value is None:
        found += [0, ("number", 1), born[0] - 1, born[0]]
    elif isinstance(value, int):
        found += [value + 1, value - 1, -1, born[0], born[1], born[0] - 1, born[1] - 1, 10 ** 30, -10 ** 30, 10 ** 30 - 1, value > 0, str(value), 0]
    elif isinstance(value, str):
        found += [value + "x", r.choice(list(KINDS)), r.choice(["function", "pair", "kept", "number", "thing", "at", "with", "end", "stuck"]), "a", 1]
    elif isinstance(value, tuple):
        found += [list(value), value + (None,), value[:-1], value[1:], value + value[-1:], value[::-1], ("number", 5), ("thing", 0),
                  ("thing", born[1] - 1), ("thing", born[1]), ("end", ("stuck",)), ("end", ("pair",)), ("end", ("number", 10 ** 30))]
        for at, item in enumerate(value):
            found += [value[:at] + (other,) + value[at + 1:] for other in r.sample(list(changes(r, item, picture)), 3)]
    elif isinstance(value, dict):
        found += [{}, list(value.items()), dict(reversed(list(value.items())))]
        for key, row in value.items():
            rest_of = {other: value[other] for other in value if other != key}
            found += [rest_of, {**rest_of, key: row}, {**rest_of, key + 1: row}, {**rest_of, True: row}, {**rest_of, str(key): row},
                      {**rest_of, -1: row}, {**value, born[0]: row}, {**value, max(born[0] - 1, 0): row}]
            found += [{**rest_of, key: other} for other in r.sample(list(changes(r, row, picture)), 4)]
    return found


class IsPictureTest(unittest.TestCase):
    def test_at_all_moments(self):
        many = 0
        for program in PROGRAMS:
            for moment in range(len(steps(program, 40)) + 1):
                picture = picture_at(program, moment)
                self.assertIs(is_picture(picture), True)
                self.assertTrue(Judge(picture).right)
                many += 1
        self.assertGreater(many, 1500)

    def test_near_pictures(self):
        r = random.Random(106)
        right, wrong = 0, 0
        for program in PROGRAMS:
            for moment in moments_of(r, program, 1):
                picture = picture_at(program, moment)
                if r.random() < 0.5:
                    picture = gone_from(r, picture, 0.3)
                _, _, born, told_state = picture
                near = [(program, moment, born, other) for other in changes(r, told_state, picture)]
                for at, part in enumerate(told_state):
                    near += [(program, moment, born, told_state[:at] + (other,) + told_state[at + 1:]) for other in changes(r, part, picture)]
                near += [(program, moment, other, told_state) for other in changes(r, born, picture)]
                near += [(program, moment, (born[0] + 1, born[1] + 7), told_state), (program, -1, born, told_state), (program, True, born, told_state)]
                near += [(other, moment, born, told_state) for other in r.sample(PROGRAMS, 3) + [None, name("x"), list(program)]]
                near += [list(picture), picture[:3], picture + (1,), (program, str(moment), born, told_state), (program, 10 ** 9, born, told_state)]
                for value in near:
                    wanted_answer = Judge(value).right
                    self.assertIs(is_picture(value), wanted_answer)
                    right += wanted_answer
                    wrong += not wanted_answer
        self.assertTrue(right > 1500 and wrong > 10000, (right, wrong))

    def test_any_value(self):
        for value in ODD:
            self.assertIs(is_picture(value), False)
        self.assertIs(is_picture(value=picture_at(number(5), 0)), True)

    def test_by_hand(self):
        program = ("show", number(5))
        frame = {0: ("show", (), (), None, None)}
        right = [
            (program, 0, (1, 0), (("at", (1,), ()), 0, frame, {}, ())), (program, 9, (1, 0), (("with", ("number", 7)), 0, frame, {}, (1, -2))),
            (program, 0, (1, 0), (("at", (1,), ()), 0, {}, {}, ())), (program, 0, (1, 0), (("at", (1,), ()), None, {}, {}, ())),
            (program, 0, (1, 9), (("with", ("thing", 8)), 0, {}, {}, ())), (program, 3, (9, 9), (("end", ("pair",)), None, {}, {}, (3,))),
            (program, 0, (0, 0), (("end", ("number", 10 ** 30 - 1)), None, {}, {}, ())), (program, 0, (0, 0), (("end", ("stuck",)), None, {}, {}, ())),
            (program, 0, (5, 0), (("end", ("stuck",)), 4, {4: ("show", (), (), None, 0), 0: ("show", (), (), None, None)}, {}, ()))]
        wrong = [
            (program, 0, (0, 0), (("at", (1,), ()), 0, frame, {}, ())), (program, 0, (1, 0), (("at", (1,), ()), None, frame, {}, ())),
            (program, 0, (1, 0), (("with", ("number", 7)), None, {}, {}, ())), (program, 0, (1, 1), (("with", ("thing", 0)), 0, frame, {}, ())),
            (program, 0, (1, 0), (("at", (), ()), 0, frame, {}, ())), (program, 0, (1, 0), (("end", ("pair",)), 0, {}, {}, ())),
            (program, 0, (1, 0), (("end", ("more",)), None, {}, {}, ())), (program, 0, (0, 0), (("end", ("number", 10 ** 30)), None, {}, {}, ())),
            (program, 0, (1, 0), (("with", ("number", 10 ** 30)), 0, frame, {}, ())), (program, 0, (1, 0), (("at", (1,), ()), 0, {True: frame[0]}, {}, ())),
            (program, 0, (1, 0), (("at", (1,), ()), 0, {0: ("show", (), (), ("number", 1), None)}, {}, ())),
            (program, 0, (1, 0), (("at", (1,), ()), 0, {0: ("show", (), (), None, 0)}, {}, ()))]
        for value in right:
            self.assertTrue(is_picture(value) and Judge(value).right, value)
        for value in wrong:
            self.assertFalse(is_picture(value) or Judge(value).right, value)

    def test_what_comes_of_a_work(self):
        for word, held, worth, answer in [
                ("times", 10 ** 29, 9, True), ("times", 10 ** 29, 10, False), ("times", -10 ** 15, 10 ** 15, False), ("plus", 10 ** 30 - 1, 0, True),
                ("plus", 10 ** 30 - 1, 1, False), ("minus", 10 ** 30 - 1, -1, False), ("minus", -10 ** 30 + 1, 1, False), ("less", 10 ** 29, 10, True),
                ("same", 10 ** 30 - 1, 10 ** 30 - 1, True)]:
            program = ("work", word, number(1), number(2))
            value = (program, 2, (2, 0), (("with", number(worth)), 1, {1: ("work2", (), (), number(held), None)}, {}, ()))
            self.assertEqual((is_picture(value), Judge(value).right), (answer, answer))
            if answer:
                self.assertEqual(rest(value, 9)[1], number(worked(word, held, worth)))
        for held, worth in ((("thing", 0), number(1)), (number(1), ("thing", 0)), (("thing", 0), ("thing", 0))):
            value = (program, 2, (2, 1), (("with", worth), 1, {1: ("work2", (), (), held, None)}, {}, ()))
            self.assertEqual((is_picture(value), Judge(value).right), (False, False))

    def test_rows_that_hang_together(self):
        # A pair that has itself is reached by nothing else; a function that has itself is.
        program = ("def", "y", "x", call(name("y"), name("x")), name("y"))
        right = (program, 1, (0, 1), (("at", (4,), (("y", ("thing", 0)),)), None, {}, {0: ("function", (), (("y", ("thing", 0)),))}, ()))
        self.assertTrue(is_picture(right))
        self.assertEqual(picture_at(program, 1), right)
        for row in (("function", (), ()), ("function", (), (("x", ("thing", 0)),)), ("function", (), (("y", ("thing", 1)),)), ("pair", ("thing", 0)),
                    ("function", (3,), ()), ("pair", ("thing", 0), ("thing", 1)), ("kept", 0), ("kept", False), ("Kept", None)):
            self.assertFalse(is_picture((*right[:3], (*right[3][:3], {0: row}, ()))), row)
        for row in (("pair", ("thing", 0), ("thing", 0)), ("kept", None)):
            self.assertTrue(is_picture((*right[:3], (*right[3][:3], {0: row}, ()))))
        self.assertFalse(is_picture((program, 1, (0, 2), (*right[3][:3], {**right[3][3], 1: ("pair", ("thing", 1), ("thing", 0))}, ()))))


class PictureAtTest(unittest.TestCase):
    def test_states_and_births(self):
        for program in PROGRAMS:
            plain = Reference(program, 40)
            for moment in range(len(plain.kinds) + 1):
                found = picture_at(program, moment)
                self.assertEqual((found[0], found[1], found[3]), (program, moment, state(program, moment)))
                again = Reference(program, moment)
                self.assertEqual(found[2], (len(again.frames), len(again.things)))

    def test_refused(self):
        for value in ODD:
            self.assertRaises(BadProgram, picture_at, value, -1)
        for moment in [*NO_WHOLES, -1, 5, 100001]:
            self.assertRaises(BadMoment, picture_at, ENTERED, moment)
        self.assertEqual(picture_at(moment=4, program=ENTERED)[2], (2, 1))
        self.assertRaises(BadMoment, picture_at, ENDLESS, 100001)
        program = of_steps(100000)
        self.assertEqual(picture_at(program, 100000)[3], state(program, 100000))


class OnwardTest(unittest.TestCase):
    def test_from_each_moment_to_each_later_one(self):
        for program in PROGRAMS[::2]:
            pictures = [picture_at(program, moment) for moment in range(min(len(steps(program, 30)), 30) + 1)]
            is_over = len(steps(program, 31)) <= 30
            for moment, picture in enumerate(pictures):
                for many in range(0, len(pictures) - moment, 1 if moment < 4 else 3):
                    found = onward(picture, many)
                    self.assertEqual(found, pictures[moment + many])
                    self.assertEqual([list(rows) for rows in found[3][2:4]], [sorted(rows) for rows in found[3][2:4]])
                if is_over:
                    for many in (len(pictures), 100000):
                        self.assertEqual(onward(picture, many), pictures[-1])

    def test_rest(self):
        r = random.Random(1070)
        for program in PROGRAMS:
            kinds = steps(program, 400)
            for moment in moments_of(r, program, 4):
                picture = picture_at(program, moment)
                for most in (0, 1, r.randint(0, 60), 100):
                    shown, end, counts = run(program, min(moment + most, 100000))
                    found = rest(picture, most)
                    self.assertEqual(found[0], shown[len(run(program, moment)[0]):])
                    self.assertEqual(found[1], end)
                    later = kinds[moment:moment + most]
                    self.assertEqual(found[2], {kind: later.count(kind) for kind in counts})

    def test_long_runs(self):
        picture = picture_at(ENDLESS, 5)
        self.assertEqual(onward(picture, 99995), picture_at(ENDLESS, 100000))
        self.assertEqual(onward(picture, 100000)[1], 100005)
        self.assertEqual(rest(picture, 100000)[1], ("more",))
        program = counted_down(3000, number(1))
        self.assertEqual(rest(picture_at(program, 100), 100000)[1], number(1))
        self.assertEqual(onward(many=0, picture=picture), picture)
        self.assertEqual(rest(most=0, picture=picture)[1], ("more",))

    def test_second_reading_with_rows_gone(self):
        r = random.Random(107)
        missed = {"frame": 0, "thing": 0}
        for program in PROGRAMS:
            for moment in moments_of(r, program, 6):
                picture = gone_from(r, picture_at(program, moment), r.choice([0.1, 0.3, 0.6]))
                for many in (0, 1, 2, r.randint(0, 30), 100):
                    plain = told(lambda: PlainResumed(picture).go_on(many).picture())
                    self.assertEqual(told(lambda: onward(picture, many)), plain)
                    found = told(lambda: rest(picture, many))
                    if plain[0] == "gone":
                        self.assertEqual(found, plain)
                        missed[plain[1]] += 1
                    else:
                        self.assertTrue(is_picture(plain))
                        self.assertEqual(picture[3][4] + found[0], plain[3][4])
                        self.assertEqual(found[1] if found[1] != ("more",) else None, plain[3][0][1] if plain[3][0][0] == "end" else None)
                        self.assertEqual(sum(found[2].values()), plain[1] - moment)
        self.assertTrue(missed["frame"] > 200 and missed["thing"] > 100, missed)

    def gone(self, picture, many, word, birth):
        """Gone is raised in the step with this number from here, and not ahead of it."""
        for act in (onward, rest):
            self.assertTrue(act(picture, many - 1))
            for more in (many, many + 1, 100000):
                with self.assertRaises(Gone) as caught:
                    act(picture, more)
                self.assertEqual((caught.exception.word, caught.exception.birth), (word, birth))

    def test_the_very_step(self):
        # hold, hold, call, look: the worth of the first hold is given to frame 0, of the second one to frame 1.
        program = call(IDENTITY, number(5))
        self.gone(without(picture_at(program, 0), [0], []), 1, "frame", 0)
        self.gone(without(picture_at(program, 1), [1], []), 1, "frame", 1)
        self.gone(without(picture_at(program, 1), [], [0]), 1, "thing", 0)
        # A worth that waits counts as given in the first step.
        self.gone(without(picture_at(program, 2), [1], []), 1, "frame", 1)
        self.gone(without(picture_at(program, 2), [], [0]), 1, "thing", 0)
        program = ("show", ("show", number(5)))
        self.gone(without(picture_at(program, 0), [0], []), 2, "frame", 0)
        self.gone(without(picture_at(program, 0), [1], []), 1, "frame", 1)
        self.gone(without(picture_at(program, 1), [0], []), 1, "frame", 0)
        program = ("open", ("pair", number(1), number(2)), "x", "y", name("y"))
        self.assertEqual(picture_at(program, 3)[3][0], ("with", ("thing", 0)))
        self.gone(without(picture_at(program, 3), [], [0]), 1, "thing", 0)
        self.gone(without(picture_at(program, 3), [0], [0]), 1, "frame", 0)
        # At the end the sort of what comes must be known.
        program = ("let", "x", IDENTITY, name("x"))
        self.gone(without(picture_at(program, 2), [], [0]), 1, "thing", 0)
        self.gone(without(picture_at(program, 1), [], [0]), 2, "thing", 0)
        # What is only carried about need not be there.
        program = ("let", "x", IDENTITY, ("choose", number(0), name("x"), number(7)))
        self.assertEqual(rest(without(picture_at(program, 1), [], [0]), 99), rest(picture_at(program, 1), 99))

    def test_where_a_sort_does_not_matter(self):
        # A thing is no number, whatever it is.
        for e in (("show", name("x")), ("choose", name("x"), number(1), number(2)), ("work", "plus", name("x"), number(1)),
                  ("work", "plus", number(1), name("x"))):
            program = ("let", "x", IDENTITY, e)
            self.assertEqual(rest(without(picture_at(program, 2), [], [0]), 99)[1], ("stuck",))

    def test_ends(self):
        for program in (number(5), ENTERED, STUCK, TWICE, *STUCKS):
            last = len(steps(program, 400))
            picture = picture_at(program, last)
            self.assertEqual(onward(picture, 5), picture)
            self.assertEqual(rest(picture, 0), ((), run(program, 400)[1], run(program, 0)[2]))
            self.assertEqual(rest(picture, 100000), rest(picture, 0))

    def test_keys_turned_about(self):
        for program in PROGRAMS[::4]:
            picture = picture_at(program, min(len(steps(program, 40)), 12))
            _, _, _, (control, top, frames, things, shown) = picture
            turned = (*picture[:3], (control, top, dict(reversed(frames.items())), dict(reversed(things.items())), shown))
            self.assertTrue(is_picture(turned))
            for many in (0, 3):
                found = onward(turned, many)
                self.assertEqual(found, onward(picture, many))
                self.assertEqual(list(found[3][2]), sorted(found[3][2]))
                self.assertEqual(list(found[3][3]), sorted(found[3][3]))


class WantedTest(unittest.TestCase):
    def test_just_what_is_needed(self):
        r = random.Random(1071)
        many = 0
        for program in PROGRAMS:
            for moment in moments_of(r, program, 5):
                picture = picture_at(program, moment)
                if rest(picture, 400)[1] == ("more",):
                    continue
                found = wanted(picture)
                self.assertTrue(is_picture(found))
                whole = rest(picture, 400)
                self.assertEqual(rest(found, 400), whole)
                _, _, _, (control, top, frames, things, shown) = found
                self.assertEqual((found[:3], control, top, shown), (picture[:3], *picture[3][:2], picture[3][4]))
                for birth in frames:
                    self.assertEqual(told(lambda: rest(without(found, [birth], []), 400))[:3], ("gone", "frame", birth))
                    self.assertEqual(frames[birth], picture[3][2][birth])
                for birth in things:
                    self.assertEqual(told(lambda: rest(without(found, [], [birth]), 400))[:3], ("gone", "thing", birth))
                looked = PlainResumed(picture).go_on(400).looked
                self.assertEqual(set(frames), {birth for word, birth in looked if word == "frame" and birth in picture[3][2]})
                self.assertEqual(set(things), {birth for word, birth in looked if word == "thing" and birth in picture[3][3]})
                self.assertEqual([list(frames), list(things)], [sorted(frames), sorted(things)])
                self.assertEqual(wanted(found), found)
                many += len(frames) + len(things)
        self.assertGreater(many, 700)

    def test_frames_that_still_get_a_return(self):
        for program in (TWICE, ENTERED, loop(3, name("v")), summed(4)):
            plain = Reference(program, 400)
            for moment in range(len(plain.kinds) + 1):
                _, _, _, (_, _, frames, _, _) = wanted(picture_at(program, moment))
                due = {birth for at, birth in plain.returns if at > moment and birth < picture_at(program, moment)[2][0]}
                self.assertEqual(set(frames), due)
        # The frame at which the run will get stuck is wanted as well.
        self.assertEqual(list(wanted(picture_at(STUCK, 0))[3][2]), [0])
        self.assertEqual(list(wanted(picture_at(STUCK, 1))[3][2]), [1])
        self.assertEqual(list(wanted(picture_at(STUCK, 2))[3][2]), [])

    def test_gone_and_too_many(self):
        picture = without(picture_at(TWICE, 3), [0], [])
        self.assertRaises(Gone, wanted, picture)
        for program in (ENDLESS, of_steps(401)):
            with self.assertRaises(TooMany) as caught:
                wanted(picture_at(program, 0))
            self.assertEqual(caught.exception.most, 400)
        self.assertTrue(is_picture(wanted(picture_at(of_steps(401), 1))))
        self.assertTrue(is_picture(wanted(picture_at(of_steps(400), 0))))
        self.assertRaises(Gone, wanted, without(picture_at(ENDLESS, 3), [], [0]))


class WithoutTest(unittest.TestCase):
    def test_second_reading(self):
        r = random.Random(1072)
        for program in PROGRAMS:
            for moment in moments_of(r, program, 3):
                picture = picture_at(program, moment)
                _, _, born, (control, top, frames, things, shown) = picture
                for _ in range(3):
                    no_frames = [r.randint(-2, born[0] + 3) for _ in range(r.randint(0, 4))]
                    no_things = [r.randint(-2, born[1] + 3) for _ in range(r.randint(0, 4))]
                    found = without(picture, no_frames, tuple(no_things))
                    self.assertTrue(is_picture(found))
                    self.assertEqual(found, only_reached((program, moment, born, (
                        control, top, {birth: row for birth, row in frames.items() if birth not in no_frames},
                        {birth: row for birth, row in things.items() if birth not in no_things}, shown))))
                    self.assertEqual([list(rows) for rows in found[3][2:4]], [sorted(rows) for rows in found[3][2:4]])
                self.assertEqual(without(things=[], picture=picture, frames=[]), picture)
                bare = without(picture, list(frames), list(things))
                self.assertEqual(bare[3], (control, top, {}, {}, shown))

    def test_what_only_the_rows_left_out_reach(self):
        picture = picture_at(summed(3), 20)
        frames = sorted(picture[3][2])
        self.assertGreater(len(frames), 2)
        self.assertEqual(list(without(picture, [frames[-2]], [])[3][2]), [frames[-1]])

    def test_refused(self):
        picture = picture_at(TWICE, 8)
        for wrong in [None, 1, "0", {}, {0: 1}, [None], [True], [0, False], ["0"], [(0,)], [0, [1]], {0}]:
            self.assertRaises(BadBirths, without, picture, wrong, None)
            self.assertRaises(BadBirths, without, picture, wrong, [])
            self.assertRaises(BadBirths, without, picture, [0], wrong)
        for births in ([], (), [-5], [10 ** 29], [0, 0]):
            self.assertTrue(is_picture(without(picture, births, births)))


class RefusedTest(unittest.TestCase):
    def test_no_pictures(self):
        picture = picture_at(TWICE, 8)
        for value in [*ODD, list(picture), picture[:3], (*picture[:3], picture[3][:4]), (number(5), *picture[1:])]:
            self.assertRaises(BadPicture, onward, value, -1)
            self.assertRaises(BadPicture, rest, value, -1)
            self.assertRaises(BadPicture, wanted, value)
            self.assertRaises(BadPicture, without, value, None, None)
        for many in [*NO_WHOLES, -1, 100001]:
            self.assertRaises(BadMost, onward, without(picture, [0], [0, 1]), many)
            self.assertRaises(BadMost, rest, without(picture, [0], [0, 1]), many)

    def test_what_is_told_is_new_and_what_is_passed_stays(self):
        picture = picture_at(TWICE, 8)
        copies = [dict(picture[3][2]), dict(picture[3][3])]
        for made in (onward(picture, 0), onward(picture, 3), without(picture, [], []), wanted(picture), picture_at(TWICE, 8)):
            made[3][2].clear()
            made[3][3].clear()
        rest(picture, 400)
        self.assertEqual([picture[3][2], picture[3][3]], copies)


if __name__ == "__main__":
    unittest.main()
