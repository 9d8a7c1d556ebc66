"""Promises 46, 47 and 48: machines over the four piles, and turns from one to another."""

import random
import unittest

from returnsdue.ahead import copying, returns_due, tallies
from returnsdue.errors import BadProgram, BadWord, NoBill, TooMany
from returnsdue.machines import Machine
from returnsdue.running import run, state, steps
from returnsdue.terms import is_program
from tests.programs import (
    BY_HAND, ENDLESS, ENTERED, STUCK, TWICE, call, counted_down, loop, name, number, of_steps, random_programs, summed,
)
from tests.reference import Reference
from tests.values import NO_WHOLES, ODD

WORDS = ("copied", "shared", "split", "led")
PROGRAMS = BY_HAND + [ENDLESS, STUCK] + random_programs(460, 120, is_program)
# A place that is kept above two frames, and entered while they wait.
DEEP = ("show", ("show", ("let", "a", ("keep", "k", ("pair", name("k"), number(1))), ("open", name("a"), "k", "n", (
    "choose", name("n"), call(name("k"), ("pair", name("k"), number(0))), number(7))))))
ENTERED_BEHIND_FRAMES = ("let", "r", ("pair", number(2), ("keep", "k", ("pair", name("k"), number(1)))), (
    "open", name("r"), "n", "p", ("open", name("p"), "k", "m", (
        "choose", name("m"), ("show", call(name("k"), ("pair", name("k"), number(0)))), name("n")))))


def is_billed(program):
    try:
        tallies(program)
    except (NoBill, TooMany):
        return False
    return True


BILLED = [program for program in PROGRAMS + [DEEP, ENTERED_BEHIND_FRAMES] if is_billed(program)]


def words_for(program):
    return WORDS if is_billed(program) else WORDS[:3]


class Plain(Reference):
    """The second reading of a run, with what waits at each moment and what each pile would copy by then."""

    def __init__(self, program, most):
        self.places = {}
        self.split = []
        self.copied = [0]
        self.waiting = []
        self.marked_births = set()
        super().__init__(program, most)

    def below(self, birth):
        births = []
        while birth is not None:
            births.append(birth)
            birth = self.frames[birth][4]
        return births

    def pop(self):
        self.split_now = getattr(self, "split_now", 0) + (self.top in self.marked_births)
        return super().pop()

    def thing(self, *row):
        if row[0] == "kept":
            waiting = self.below(row[1])
            self.copied[-1] += len(waiting)
            self.marked_births |= set(waiting)
        return super().thing(*row)

    def use(self, worth):
        super().use(worth)
        if self.things[worth[1]][0] == "kept":
            self.copied[-1] += len(self.below(self.things[worth[1]][1]))

    def settle(self):
        super().settle()
        self.split.append(getattr(self, "split_now", 0))
        self.waiting.append(self.below(self.top))
        self.copied.append(self.copied[-1])


def without(told, lost):
    """A state without these frames and without what only they reach."""
    control, top, frames, things, shown = told
    kept = {"frame": {}, "thing": {}}
    waiting = [("frame", top)]

    def worths(names):
        return [worth for _, worth in names]
    if control[0] == "at":
        waiting += worths(control[2])
    elif control[0] == "with":
        waiting.append(control[1])
    while waiting:
        word, birth = waiting.pop()
        if word == "number" or birth is None or birth in kept[word] or (word == "frame" and birth in lost):
            continue
        row = kept[word][birth] = (frames if word == "frame" else things)[birth]
        if word == "frame":
            waiting += worths(row[2]) + ([row[3]] if row[3] else []) + [("frame", row[4])]
        elif row[0] == "function":
            waiting += worths(row[2])
        else:
            waiting += list(row[1:]) if row[0] == "pair" else [("frame", row[1])]
    return control, top, dict(sorted(kept["frame"].items())), dict(sorted(kept["thing"].items())), shown


def no_due(program, moment):
    return {birth for birth, many in returns_due(program, moment).items() if not many}


class StepByStepTest(unittest.TestCase):
    def test_each_machine_goes_with_the_run(self):
        for program in PROGRAMS + [DEEP, ENTERED_BEHIND_FRAMES]:
            plain = Plain(program, 60)
            ahead = steps(program, 61)
            led_copies = copying(program) if is_billed(program) else ()
            for word in words_for(program):
                machine = Machine(program, word)
                for moment, wanted in enumerate(plain.states):
                    self.assertEqual((machine.moment, machine.word), (moment, word))
                    self.assertEqual(machine.births(), plain.waiting[moment])
                    self.assertEqual(machine.shown(), list(wanted[4]))
                    over = wanted[0][0] == "end"
                    self.assertEqual(machine.end(), wanted[0][1] if over else None)
                    self.check_ahead(machine.ahead(), wanted, over, ahead[moment:])
                    lost = no_due(program, moment) if word == "led" else set()
                    self.assertEqual(machine.state(), without(wanted, lost))
                    copied = {"copied": plain.copied[moment], "split": plain.split[moment], "shared": 0,
                              "led": len([at for at, _ in led_copies if at <= moment])}[word]
                    self.assertEqual(machine.copied, copied)
                    self.assertIs(machine.step(), not over)

    def check_ahead(self, found, wanted, over, kinds):
        if over:
            self.assertIsNone(found)
            return
        control, top, frames, _, _ = wanted
        path = control[1] if control[0] == "at" else frames[top][1]
        self.assertEqual(found, (kinds[0], path))

    def test_what_is_held(self):
        for program in BILLED:
            for word in WORDS:
                machine = Machine(program, word)
                plain = Plain(program, 400)
                for moment in range(min(len(plain.states), 50)):
                    due = returns_due(program, moment)
                    held = machine.held()
                    self.assertEqual(held, sorted(held))
                    if word == "led":
                        self.assertEqual(held, [birth for birth in due if due[birth]])
                    else:
                        self.assertLessEqual({birth for birth in due if due[birth]}, set(held))
                        self.assertLessEqual(set(plain.waiting[moment]), set(held))
                        self.assertTrue(word == "copied" or len(set(held)) == len(held))
                    machine.step()

    def test_the_end_changes_nothing(self):
        for program in (TWICE, ENTERED, STUCK, number(3)):
            for word in words_for(program):
                machine = Machine(program, word)
                while machine.step():
                    pass
                told = (machine.moment, machine.end(), machine.shown(), machine.births(), machine.held(), machine.state(),
                        machine.copied, machine.ahead())
                self.assertEqual(told[:2], (len(steps(program, 99)), run(program, 99)[1]))
                for _ in range(3):
                    self.assertIs(machine.step(), False)
                    self.assertEqual(told, (machine.moment, machine.end(), machine.shown(), machine.births(), machine.held(),
                                            machine.state(), machine.copied, machine.ahead()))

    def test_stuck(self):
        for word in WORDS[:3]:
            machine = Machine(STUCK, word)
            self.assertEqual([machine.step() for _ in range(3)], [True, True, False])
            self.assertEqual((machine.end(), machine.births(), machine.held(), machine.ahead()), (("stuck",), [1], [1], None))
            self.assertEqual(machine.state(), state(STUCK, 2))


class CopiedTest(unittest.TestCase):
    def whole(self, program):
        machines = [Machine(program, word) for word in words_for(program)]
        for machine in machines:
            while machine.moment < 2000 and machine.step():
                pass
        return [machine.copied for machine in machines]

    def test_example(self):
        self.assertEqual(self.whole(TWICE), [2, 0, 2, 1])

    def test_none_needed(self):
        self.assertEqual(self.whole(ENTERED), [0, 0, 0, 0])
        self.assertEqual(self.whole(summed(5)), [0, 0, 0, 0])
        kept = ("show", ("show", ("keep", "k", ("let", "a", call(name("k"), number(1)), number(2)))))
        self.assertEqual(self.whole(kept), [4, 0, 2, 0])
        self.assertEqual(self.whole(("show", ("keep", "k", number(4)))), [1, 0, 1, 0])

    def test_whole_runs(self):
        for program in BILLED:
            copied, shared, split, led = self.whole(program)
            self.assertEqual((shared, led), (0, len(copying(program))))
            self.assertTrue(led <= split <= copied)
            twice = any(many > 1 for _, _, many in tallies(program)[0])
            self.assertEqual(led > 0, twice)

    def test_many_returns(self):
        self.assertEqual(self.whole(loop(20, name("v"))), [21, 0, 21, 20])


class TurnTest(unittest.TestCase):
    def test_each_word_from_each_word_at_each_moment(self):
        for program in (TWICE, ENTERED_BEHIND_FRAMES, loop(2, ("show", name("v"))), ENTERED, DEEP):
            if not is_billed(program):
                continue
            many = len(steps(program, 400))
            for first in WORDS:
                for second in WORDS:
                    for at in range(many + 1):
                        self.check_turns(program, first, {at: second})

    def test_rows_of_turns(self):
        r = random.Random(46)
        for program in BILLED:
            many = min(len(steps(program, 400)), 60)
            for _ in range(4):
                turns = {r.randint(0, many): r.choice(WORDS) for _ in range(r.randint(1, 6))}
                self.check_turns(program, r.choice(WORDS), turns)

    def check_turns(self, program, first, turns):
        """Turn at these moments; all the way what is told is that of the run, but for what a led pile let go."""
        machine = Machine(program, first)
        plain = Plain(program, 70)
        lost = set()
        for moment, wanted in enumerate(plain.states):
            if machine.word == "led":
                lost |= no_due(program, moment)
            if moment in turns:
                copied = machine.copied
                self.assertIsNone(machine.turn(turns[moment]))
                self.assertEqual((machine.word, machine.copied, machine.moment), (turns[moment], copied, moment))
                if machine.word == "led":
                    lost |= no_due(program, moment)
            over = wanted[0][0] == "end"
            self.assertEqual((machine.births(), machine.shown()), (plain.waiting[moment], list(wanted[4])))
            self.assertEqual((machine.end() is None, machine.ahead() is None), (not over, over))
            self.assertEqual(machine.state(), without(wanted, lost))
            held = machine.held()
            self.assertFalse(set(held) & lost)
            self.assertEqual(held, sorted(held))
            self.assertLessEqual(set(plain.waiting[moment]) - lost, set(held))
            if machine.word == "led":
                self.assertEqual(held, [birth for birth, due in returns_due(program, moment).items() if due])
            machine.step()

    def test_there_and_back(self):
        for word in WORDS:
            machine = Machine(TWICE, word)
            while machine.moment < 6:
                machine.step()
            before = (machine.births(), machine.held(), machine.state(), machine.copied)
            for other in WORDS[:3]:
                machine.turn(other)
                machine.turn(word)
                self.assertEqual(before[0::2], (machine.births(), machine.state()))
                self.assertEqual(machine.copied, before[3])
            machine.turn(word)
            self.assertEqual((machine.births(), machine.held(), machine.state(), machine.copied), before)

    def test_copies_behind_a_turn(self):
        # Of a loop over one frame each entry is a copy; a pile copies as it does if it had been there all along.
        program = loop(4, name("v"))
        lines = {word: [] for word in WORDS}
        for word in WORDS:
            machine = Machine(program, word)
            while machine.step():
                lines[word].append(machine.copied)
        many = len(steps(program, 400))
        for first in WORDS:
            for second in WORDS:
                for at in range(1, many):
                    machine = Machine(program, first)
                    while machine.moment < at:
                        machine.step()
                    machine.turn(second)
                    while machine.step():
                        pass
                    more = lines[second][-1] - lines[second][at - 1]
                    self.assertEqual(machine.copied, lines[first][at - 1] + more)

    def test_frames_that_are_not_held_are_counted_by_copied(self):
        # At moment 2 the frame of the first show will get no return; it waits when j is kept.
        program = ("keep", "k", ("show", ("show", ("let", "a", ("keep", "j", name("j")), call(name("k"), number(1))))))
        plain = [Machine(program, "copied"), Machine(program, "led")]
        for machine in plain:
            machine.step()
            self.assertEqual(machine.births(), [2, 1, 0])
        self.assertEqual([machine.held() for machine in plain], [[0, 1, 2], [2]])
        plain[1].turn("copied")
        self.assertEqual((plain[1].held(), plain[1].copied, plain[1].births()), ([2], 0, [2, 1, 0]))
        for machine in plain:
            machine.step()
        self.assertEqual([machine.copied for machine in plain], [3, 3])
        self.assertEqual([machine.held() for machine in plain], [[0, 0, 1, 1, 2, 2], [2, 2]])
        plain[1].turn("split")
        self.assertEqual((plain[1].held(), plain[1].births()), ([2], [2, 1, 0]))
        plain[1].turn("shared")
        self.assertEqual((plain[1].held(), plain[1].births()), ([2], [2, 1, 0]))
        plain[1].turn("led")
        self.assertEqual((plain[1].held(), plain[1].births()), ([2], [2, 1, 0]))
        while plain[1].step():
            pass
        self.assertEqual((plain[1].end(), plain[1].held()), (number(1), []))

    def test_split_seals_what_is_of_a_mark(self):
        program = ("show", ("keep", "k", ("show", ("let", "a", name("k"), number(1)))))
        machine = Machine(program, "shared")
        machine.step()
        machine.step()
        self.assertEqual(machine.births(), [2, 1, 0])
        machine.turn("split")
        self.assertEqual((machine.held(), machine.copied), ([0, 1, 2], 0))
        while machine.step():
            pass
        self.assertEqual((machine.copied, machine.held()), (1, [0]))

    def test_refused_turns_change_nothing(self):
        for program, error in ((STUCK, NoBill), (ENDLESS, TooMany), (of_steps(401), TooMany)):
            for word in WORDS[:3]:
                machine = Machine(program, word)
                machine.step()
                told = (machine.births(), machine.held(), machine.state(), machine.copied, machine.word, machine.moment)
                with self.assertRaises(error) as caught:
                    machine.turn("led")
                if error is TooMany:
                    self.assertEqual(caught.exception.most, 400)
                for bad in [*NO_WHOLES, "plain", "code", "Led", 3, TWICE]:
                    self.assertRaises(BadWord, machine.turn, bad)
                self.assertEqual(told, (machine.births(), machine.held(), machine.state(), machine.copied, machine.word,
                                        machine.moment))
                self.assertIsNone(machine.turn(word="shared"))

    def test_400_steps_and_401(self):
        machine = Machine(of_steps(400), "led")
        while machine.step():
            pass
        self.assertEqual((machine.moment, machine.held()), (400, []))
        self.assertRaises(TooMany, Machine, of_steps(401), "led")


class AnyRunTest(unittest.TestCase):
    def test_long_runs(self):
        for program in (counted_down(3000, number(5)), summed(800), loop(500, name("v"))):
            for word in WORDS[:3]:
                machine = Machine(program, word)
                while machine.step():
                    pass
                shown, end, many = run(program, 100000)
                self.assertEqual((machine.moment, machine.end(), machine.shown()), (sum(many.values()), end, list(shown)))
        machine = Machine(ENDLESS, "split")
        for _ in range(5000):
            self.assertIs(machine.step(), True)
        self.assertEqual((machine.moment, machine.state()), (5000, state(ENDLESS, 5000)))

    def test_a_thousand_waiting_frames(self):
        program = summed(600)
        for word in WORDS[:3]:
            machine = Machine(program, word)
            while machine.moment < 3 + 8 * 550:
                machine.step()
            self.assertEqual(machine.state(), state(program, machine.moment))
            self.assertGreater(len(machine.births()), 500)
            machine.turn("shared")
            self.assertEqual(machine.state(), state(program, machine.moment))

    def test_what_is_told_is_new(self):
        for word in WORDS:
            machine = Machine(TWICE, word)
            for _ in range(8):
                machine.step()
            told = (machine.births(), machine.held(), machine.shown(), machine.state())
            machine.births().append(77)
            machine.held().append(77)
            machine.shown().append(77)
            machine.state()[2].clear()
            machine.state()[3].clear()
            self.assertEqual((machine.births(), machine.held(), machine.shown(), machine.state()), told)
            while machine.step():
                pass
            self.assertEqual(machine.end(), number(8))

    def test_refused(self):
        for value in ODD:
            self.assertRaises(BadProgram, Machine, value, "none")
        self.assertRaises(BadProgram, Machine, name("x"), "led")
        for word in [*NO_WHOLES, "", "plain", "code", "COPIED", ("led",), ["led"]]:
            self.assertRaises(BadWord, Machine, TWICE, word)
            self.assertRaises(BadWord, Machine, STUCK, word)
        self.assertRaises(NoBill, Machine, STUCK, "led")
        self.assertRaises(TooMany, Machine, ENDLESS, "led")
        machine = Machine(word="split", program=TWICE)
        self.assertEqual((machine.moment, machine.word, machine.copied), (0, "split", 0))

    def test_it_is_equal_to_nothing_else(self):
        machine = Machine(TWICE, "led")
        self.assertFalse(any(machine == value for value in (0, None, (), TWICE, Machine(TWICE, "led"))))
        with self.assertRaises(TypeError):
            iter(machine)


if __name__ == "__main__":
    unittest.main()
