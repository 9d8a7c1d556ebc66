"""Promises 94, 95 and 96: a session that goes back and forth in a run."""

import random
import unittest

from returnsdue.debugger import Session
from returnsdue.errors import (
    BadBirth, BadMany, BadMoment, BadPath, BadProgram, BadWord, NoBill, NotTold, ReturnError, TooMany,
)
from returnsdue.machines import Machine
from returnsdue.roads import returns
from returnsdue.running import run, state, steps
from returnsdue.terms import is_program, paths
from tests.programs import (
    BY_HAND, ENDLESS, ENTERED, STUCK, TWICE, loop, name, number, of_steps, random_programs,
)
from tests.reference import Reference
from tests.test_machines import DEEP, ENTERED_BEHIND_FRAMES, is_billed, no_due, without
from tests.values import NO_WHOLES, ODD

WORDS = ("plain", "copied", "shared", "split", "led", "code")
SHOWING = ("let", "x", ("show", number(1)), ("show", ("show", name("x"))))
STUCK_LATER = ("show", ("let", "x", ("show", number(1)), ("open", name("x"), "a", "b", name("a"))))
MOVES = {"fore": [1], "back": [1], "to": [3], "next_return": [0], "last_return": [0], "next_show": [], "last_show": [],
         "next_stop": [], "last_stop": []}
PROGRAMS = [program for program in BY_HAND + [STUCK, STUCK_LATER, SHOWING, DEEP, ENTERED_BEHIND_FRAMES]
            + random_programs(940, 30, is_program) if len(steps(program, 99)) < 99]


def words_for(program):
    return [word for word in WORDS if word != "led" or is_billed(program)]


class Told:
    """What is so at each moment of a run, by the second reading."""

    def __init__(self, program):
        self.program = program
        self.run = Reference(program, 400)
        self.length = len(self.run.kinds)
        self.born_at = [len(Reference(program, moment).frames) for moment in range(self.length + 1)]

    def end(self, moment):
        control = self.run.states[moment][0]
        return control[1] if control[0] == "end" else None

    def sight(self, moment):
        kind = self.run.kinds[moment] if moment < self.length else None
        return (moment, kind, self.run.states[moment][4], self.end(moment))

    def where(self, moment):
        control, top, frames, _, _ = self.run.states[moment]
        return {"at": lambda: control[1], "with": lambda: frames[top][1], "end": lambda: None}[control[0]]()

    def born(self, moment):
        return self.born_at[moment]

    def dues(self, moment):
        births = [birth for at, birth in self.run.returns if at > moment and birth < self.born(moment)]
        return {birth: births.count(birth) for birth in sorted(set(births))}


def told_by(session):
    """All that a session tells of where it stands."""
    tells = [session.moment, session.machine, session.length, session.program, session.sight(), session.where(),
             session.dues(), session.stops()]
    return tells + ([session.state(), session.held()] if session.machine != "code" else [])


class SightTest(unittest.TestCase):
    def test_each_machine_at_each_moment(self):
        for program in PROGRAMS:
            told = Told(program)
            for word in words_for(program):
                session = Session(program, word)
                self.assertEqual((session.program, session.machine, session.length), (program, word, told.length))
                machine = Machine(program, word) if word in WORDS[1:5] else None
                for moment in range(told.length + 1):
                    self.assertEqual(session.moment, moment)
                    self.check(session, told, moment)
                    if machine is not None:
                        self.assertEqual(session.held(), tuple(machine.held()))
                        machine.step()
                    self.assertEqual(session.fore(), min(moment + 1, told.length))
                self.check(session, told, told.length)

    def check(self, session, told, moment):
        self.assertEqual(session.sight(), told.sight(moment))
        self.assertEqual(session.where(), told.where(moment))
        dues = session.dues()
        self.assertEqual((dues, list(dues)), (told.dues(moment), sorted(dues)))
        if session.machine == "code":
            self.assertRaises(NotTold, session.state)
            self.assertRaises(NotTold, session.held)
            return
        lost = no_due(told.program, moment) if session.machine == "led" else set()
        self.assertEqual(session.state(), without(told.run.states[moment], lost))
        held = session.held()
        self.assertIsInstance(held, tuple)
        if session.machine == "plain":
            self.assertEqual(held, tuple(session.state()[2]))
        self.assertLessEqual(set(dues), set(held))
        if session.machine == "led":
            self.assertEqual(held, tuple(dues))

    def test_by_hand(self):
        session = Session(SHOWING)
        self.assertEqual((session.machine, session.moment, session.length, session.stops()), ("plain", 0, 6, []))
        self.assertEqual((session.sight(), session.where()), ((0, "hold", (), None), (2, 1)))
        self.assertEqual(session.dues(), {0: 1, 1: 1})
        session.to(1)
        self.assertEqual((session.sight(), session.where()), ((1, "show", (), None), (2,)))
        session.to(6)
        self.assertEqual((session.sight(), session.where()), ((6, None, (1, 1, 1), number(1)), None))
        self.assertEqual((session.dues(), session.held()), ({}, ()))

    def test_stuck(self):
        session = Session(STUCK_LATER, "code")
        self.assertEqual((session.length, session.fore(99)), (4, 4))
        self.assertEqual((session.sight(), session.where()), ((4, None, (1,), ("stuck",)), None))
        session.lead("split")
        self.assertEqual((session.held(), session.state()), ((0, 3), state(STUCK_LATER, 4)))
        self.assertEqual(session.dues(), {})
        session.to(0)
        self.assertEqual(session.dues(), {1: 1, 2: 1})

    def test_what_is_told_is_new(self):
        for word in ("plain", "shared", "led"):
            session = Session(TWICE, word)
            session.fore(6)
            session.stop(())
            before = told_by(session)
            session.dues().clear()
            session.stops().clear()
            session.state()[2].clear()
            session.state()[3].clear()
            self.assertEqual(told_by(session), before)


class MovesTest(unittest.TestCase):
    def test_fore_and_back(self):
        for word in WORDS:
            session = Session(TWICE, machine=word)
            self.assertEqual([session.fore(), session.fore(3), session.fore(0), session.fore(many=2)], [1, 4, 4, 6])
            self.assertEqual([session.back(), session.back(many=2), session.back(0)], [5, 3, 3])
            self.assertEqual([session.back(10 ** 29), session.back(), session.back(0)], [0, 0, 0])
            self.assertEqual([session.fore(10 ** 29), session.fore(), session.fore(0)], [20, 20, 20])
            self.assertEqual([session.to(7), session.to(moment=20), session.to(0), session.to(0)], [7, 20, 0, 0])

    def test_next_and_last_return(self):
        session = Session(TWICE)
        self.assertEqual([session.next_return(0), session.moment, session.next_return(birth=0)], [5, 5, 15])
        self.assertIsNone(session.next_return(0))
        self.assertEqual([session.moment, session.last_return(0), session.last_return(birth=0)], [15, 5, None])
        self.assertEqual(session.to(20), 20)
        self.assertEqual([session.last_return(0), session.next_return(1), session.last_return(1)], [15, None, 2])

    def test_next_and_last_show(self):
        session = Session(SHOWING, "copied")
        self.assertEqual([session.next_show() for _ in range(4)], [2, 5, 6, None])
        self.assertEqual(session.moment, 6)
        self.assertEqual([session.last_show() for _ in range(3)], [5, 2, None])
        self.assertEqual(session.moment, 2)
        session = Session(TWICE)
        self.assertEqual([session.next_show(), session.last_show(), session.moment], [None, None, 0])

    def test_stops(self):
        session = Session(TWICE)
        self.assertEqual([session.next_stop(), session.last_stop(), session.stops()], [None, None, []])
        self.assertEqual([session.stop((4,)), session.stop(path=(4,)), session.stop(())], [True, False, True])
        self.assertEqual(session.stops(), [(), (4,)])
        self.assertEqual([session.next_stop() for _ in range(5)], [4, 8, 14, 18, None])
        self.assertEqual([session.moment, session.last_stop(), session.last_stop()], [18, 14, 8])
        self.assertEqual([session.unstop(path=()), session.unstop(()), session.stops()], [True, False, [(4,)]])
        session.to(0)
        self.assertEqual([session.next_stop() for _ in range(3)], [8, 18, None])
        self.assertEqual([session.unstop((4,)), session.unstop((1,)), session.stops()], [True, False, []])
        self.assertEqual([session.last_stop(), session.moment], [None, 18])

    def test_stops_ascend(self):
        session = Session(TWICE)
        for path in sorted(paths(TWICE), key=lambda path: (len(path), path), reverse=True):
            self.assertIs(session.stop(path), True)
        self.assertEqual(session.stops(), paths(TWICE))
        self.assertEqual([session.next_stop() for _ in range(20)], [*range(1, 20), None])

    def test_a_stop_where_the_session_stands(self):
        session = Session(TWICE)
        session.stop(session.where())
        self.assertEqual([session.next_stop(), session.moment, session.last_stop()], [None, 0, None])

    def test_second_reading(self):
        r = random.Random(95)
        for program in PROGRAMS:
            told = Told(program)
            stops = r.sample(paths(program), min(3, len(paths(program))))
            moments = {
                "show": [at for at, kind in enumerate(told.run.kinds, 1) if kind == "show"],
                "stop": [at for at in range(told.length + 1) if told.where(at) in stops],
            }
            for moment in range(0, told.length + 1, 3):
                session = Session(program, r.choice(words_for(program)))
                for path in stops:
                    session.stop(path)
                for birth in range(told.born(moment)):
                    moments["return"] = [at for at, other in returns(program) if other == birth]
                    for what, found in moments.items():
                        given = [birth] if what == "return" else []
                        session.to(moment)
                        wanted = min([at for at in found if at > moment], default=None)
                        self.assertEqual(getattr(session, "next_" + what)(*given), wanted)
                        self.assertEqual(session.moment, moment if wanted is None else wanted)
                        if what == "return":
                            self.assertEqual(wanted is not None, birth in told.dues(moment))
                        session.to(moment)
                        wanted = max([at for at in found if at < moment], default=None)
                        self.assertEqual(getattr(session, "last_" + what)(*given), wanted)
                        self.assertEqual(session.moment, moment if wanted is None else wanted)

    def test_nothing_hangs_on_the_way(self):
        r = random.Random(96)
        for program in PROGRAMS:
            session = Session(program, r.choice(words_for(program)))
            for _ in range(25):
                self.random_deed(r, session, program)
                other = Session(program, session.machine)
                for path in session.stops():
                    other.stop(path)
                other.to(session.moment)
                self.assertEqual(told_by(session), told_by(other))

    def random_deed(self, r, session, program):
        deed = r.choice([*MOVES, "stop", "unstop", "lead", "lead"])
        given = {"fore": [r.randint(0, 9)], "back": [r.randint(0, 9)], "to": [r.randint(0, session.length)],
                 "next_return": [r.randint(0, 3)], "last_return": [r.randint(0, 3)], "stop": [r.choice(paths(program))],
                 "unstop": [r.choice(paths(program))], "lead": [r.choice(WORDS)]}.get(deed, [])
        before = told_by(session)
        try:
            getattr(session, deed)(*given)
        except ReturnError:
            self.assertEqual(told_by(session), before)


class LeadTest(unittest.TestCase):
    def test_each_machine_from_each_other(self):
        for program in (TWICE, ENTERED_BEHIND_FRAMES, loop(2, name("v")), ENTERED):
            many = len(steps(program, 400))
            for first in WORDS:
                for second in WORDS:
                    for at in range(0, many + 1, 4):
                        session = Session(program, first)
                        session.to(at)
                        self.assertEqual(session.lead(second), first)
                        other = Session(program, second)
                        other.to(at)
                        self.assertEqual(told_by(session), told_by(other))
                        self.assertEqual(session.lead(machine=first), second)
                        other = Session(program, first)
                        other.to(at)
                        self.assertEqual(told_by(session), told_by(other))
                        session.fore(3)
                        other.fore(3)
                        self.assertEqual(told_by(session), told_by(other))

    def test_led_holds_no_other_frames(self):
        session = Session(ENTERED_BEHIND_FRAMES, "split")
        for moment in range(session.length + 1):
            session.to(moment)
            session.lead("led")
            self.assertEqual(session.held(), tuple(session.dues()))
            session.lead("shared")
            self.assertLessEqual(set(session.dues()), set(session.held()))

    def test_a_stuck_program(self):
        session = Session(STUCK_LATER, "shared")
        session.fore(2)
        before = told_by(session)
        self.assertRaises(NoBill, session.lead, "led")
        self.assertEqual(told_by(session), before)
        for word in [*NO_WHOLES, "", "Led", ("led",), 3]:
            self.assertRaises(BadWord, session.lead, word)
        self.assertEqual(told_by(session), before)
        self.assertEqual([session.lead("code"), session.lead("code"), session.lead("plain")], ["shared", "code", "code"])


class RefusedTest(unittest.TestCase):
    def test_sessions(self):
        for value in ODD:
            self.assertRaises(BadProgram, Session, value)
            self.assertRaises(BadProgram, Session, value, "none")
        for word in [*NO_WHOLES, "", "Led", ["led"], ("led",), 3]:
            self.assertRaises(BadWord, Session, ENDLESS, word)
            self.assertRaises(BadWord, Session, STUCK, word)
        self.assertRaises(NoBill, Session, STUCK, "led")
        for word in WORDS:
            for program in (ENDLESS, of_steps(401)):
                with self.assertRaises(TooMany) as caught:
                    Session(program, word)
                self.assertEqual(caught.exception.most, 400)
            session = Session(machine=word, program=of_steps(400))
            self.assertEqual((session.length, session.fore(400), session.sight()[3]), (400, 400, number(0)))

    def test_refused_calls_change_nothing(self):
        for word in WORDS:
            session = Session(TWICE, word)
            session.fore(6)
            session.stop((1,))
            before = told_by(session)
            for value in [*NO_WHOLES, -1]:
                self.assertRaises(BadMany, session.fore, value)
                self.assertRaises(BadMany, session.back, value)
                self.assertRaises(BadMoment, session.to, value)
                self.assertRaises(BadBirth, session.next_return, value)
                self.assertRaises(BadBirth, session.last_return, value)
            self.assertRaises(BadMoment, session.to, 21)
            born = len(Reference(TWICE, 6).frames)
            self.assertRaises(BadBirth, session.next_return, born)
            self.assertRaises(BadBirth, session.last_return, born)
            for path in [*NO_WHOLES, (0,), (2,), (1, 1), [1], (True,), (1, 2, 1, 1), "()"]:
                if path not in ((), (1,)):
                    self.assertRaises(BadPath, session.stop, path)
                    self.assertRaises(BadPath, session.unstop, path)
            self.assertRaises(BadWord, session.lead, "none")
            self.assertEqual(told_by(session), before)

    def test_births_by_now(self):
        session = Session(TWICE)
        self.assertRaises(BadBirth, session.next_return, 1)
        session.fore()
        self.assertEqual(session.next_return(1), 2)
        session.back()
        self.assertEqual(session.last_return(1), None)
        session.to(0)
        self.assertRaises(BadBirth, session.last_return, 1)

    def test_it_is_equal_to_nothing_else(self):
        session = Session(TWICE)
        self.assertFalse(any(session == value for value in (0, None, (), TWICE, Session(TWICE))))
        with self.assertRaises(TypeError):
            iter(session)

    def test_ends_told(self):
        for program in PROGRAMS:
            session = Session(program)
            session.to(session.length)
            shown, end, _ = run(program, 400)
            self.assertEqual(session.sight(), (session.length, None, shown, end))


if __name__ == "__main__":
    unittest.main()
