"""Promise 105: a desk that is led by lines, and can be opened again by its journal."""

import random
import unittest

from returnsdue.billing import bill
from returnsdue.debugger import Session
from returnsdue.desk import Desk
from returnsdue.errors import BadJournal, BadLine, BadText, TooMany
from returnsdue.journals import folded, is_deed, journal, recovered
from returnsdue.packing import packed
from returnsdue.roads import roads
from returnsdue.running import steps
from returnsdue.terms import is_program
from returnsdue.texts import read, text
from tests.programs import (
    BY_HAND, ENDLESS, ENTERED, IDENTITY, STUCK, TWICE, call, doubling, loop, name, number, of_steps, random_programs)
from tests.test_debugger import SHOWING, STUCK_LATER
from tests.test_journals import dotted, random_deeds
from tests.values import ODD

FIRST = "program " + text(TWICE) + "\n"
ASKING = ["sight", "dues", "stops", "why 0", "why 1", "why 99", "bill", "fold"]
UNKNOWN = ["", " ", "sight ", " sight", "Sight", "sights", "due", "dues 1", "stop", "why", "why ", "why x", "why -1", "why 01",
           "why 1 ", "why  1", "why 1000000000", "program", "Program 5", " program 5", "programs 5", "fore", "fore -1", "fore 01",
           "to 1.0", "stop 1..2", "lead", "lead none", "lead  led", "folds", "fold 1", "next", "next return", "next  show", "none",
           "no program", "refused", "journal", "session", "help", "sight\t", "sight\r", "fore 1 = 1", "\u0661", "()"]
PROGRAMS = [program for program in BY_HAND + [STUCK, STUCK_LATER, SHOWING] + random_programs(1050, 20, is_program)
            if len(steps(program, 400)) < 400]


def opened(program, lines=()):
    desk = Desk()
    desk.say("program " + text(program))
    for line in lines:
        desk.say(line)
    return desk


def told_by(session):
    if session is None:
        return None
    return (session.program, session.machine, session.moment, session.stops(), session.sight(), session.where(), session.dues())


def answered(session, line):
    """What is answered to a line that asks, by the session's own methods."""
    if line == "sight":
        moment, kind, shown, end = session.sight()
        told = [f"at {moment} of {session.length}", "next none" if kind is None else f"next {kind} at {dotted(session.where())}",
                " ".join(["shown", *map(str, shown)])]
        return told + ([" ".join(["end", *map(str, end)])] if end else [])
    if line == "dues":
        return [f"{birth} {many}" for birth, many in sorted(session.dues().items())]
    if line == "stops":
        return [dotted(path) for path in session.stops()]
    if line.startswith("why"):
        try:
            found = roads(session.program, session.moment, int(line[4:]))
        except ValueError:
            return ["refused"]
        return [f"step {step}" + "".join(f" by {a}:{b}" for a, b in hops) for hops, step in found]
    try:
        found = bill(session.program)
    except TooMany:
        return ["too many"]
    return ["none"] if found is None else packed(found).split("\n")


class ProgramTest(unittest.TestCase):
    def test_no_program(self):
        for given in ((), ("",), ("program 5",), ("what is this",), (FIRST[:-1],)):
            desk = Desk(*given)
            self.assertEqual((desk.journal, desk.session), ("", None))
            for line in ASKING + ["fore 1", "back 0", "to 9", "next return 0", "last return 7", "next show", "last show", "stop .",
                                  "unstop 1.2", "next stop", "last stop", "lead code"]:
                self.assertEqual(desk.say(line), ["no program"])
            for line in UNKNOWN:
                self.assertEqual(desk.say(line), ["unknown"])
            self.assertEqual((desk.journal, desk.session), ("", None))

    def test_a_program(self):
        desk = Desk()
        self.assertEqual(desk.say("program " + text(TWICE)), ["length 20"])
        self.assertEqual(desk.journal, FIRST)
        self.assertIsInstance(desk.session, Session)
        self.assertEqual(told_by(desk.session), told_by(Session(TWICE)))
        self.assertEqual(desk.say(line="program   ( show\t5 )".replace("\t", "  ")), ["length 2"])
        self.assertEqual((desk.journal, desk.session.program), ("program (show 5)\n", ("show", number(5))))
        self.assertEqual(desk.say("program (call 1 2)"), ["length 2"])

    def test_no_text_of_a_program(self):
        for desk in (Desk(), opened(TWICE, ["fore 3"])):
            before = (desk.journal, told_by(desk.session))
            for told in ["", " ", "(", "x", "(show 5", "(show 5))", "(fun x y)", "5 6", "program 5", "(let call 3 x)", "(plus 3 y)", "01",
                         "\u0661", "A", "9" * 31, "(work plus 1 2)"]:
                with self.assertRaises(BadText) as caught:
                    read(told)
                self.assertEqual(desk.say("program " + told), [f"refused {caught.exception.at}"])
            self.assertEqual(desk.say("program (let call 3 x)"), ["refused 9"])
            for program in (ENDLESS, of_steps(401), loop(200, number(1))):
                self.assertEqual(desk.say("program " + text(program)), ["too long"])
            self.assertEqual((desk.journal, told_by(desk.session)), before)
            self.assertEqual(desk.say("program " + text(of_steps(400))), ["length 400"])

    def test_a_program_anew(self):
        desk = opened(TWICE, ["fore 3", "stop 1", "lead led"])
        self.assertEqual(desk.say("program " + text(TWICE)), ["length 20"])
        self.assertEqual((desk.journal, told_by(desk.session)), (FIRST, told_by(Session(TWICE))))


class LinesTest(unittest.TestCase):
    def test_by_hand(self):
        desk = opened(TWICE)
        for line, answer in [
                ("sight", ["at 0 of 20", "next keep at 1", "shown"]), ("fore 3", ["3"]), ("to 99", ["refused"]), ("stop .", ["yes"]),
                ("stop .", ["no"]), ("stops", ["."]), ("stop 1.2", ["yes"]), ("stops", [".", "1.2"]), ("dues", ["0 2", "2 1"]),
                ("why 0", ["step 5", "step 15 by 1:14"]), ("why 1", []), ("why 9", ["refused"]), ("to 14", ["14"]),
                ("why 0", ["step 15"]), ("next show", ["none"]), ("lead code", ["plain"]), ("dues", ["0 1"]), ("next return 0", ["15"]),
                ("why 0", []), ("unstop 9", ["refused"]), ("fold", ["rows 5"]), ("fold", ["rows 5"]), ("fore 100", ["20"]),
                ("sight", ["at 20 of 20", "next none", "shown", "end number 8"]), ("dues", [])]:
            with self.subTest(line=line):
                self.assertEqual(desk.say(line), answer)
        self.assertEqual(desk.journal, FIRST + "lead code = plain\nstop . = yes\nstop 1.2 = yes\nto 15 = 15\nfore 100 = 20\n")

    def test_ends(self):
        for program, told in [(number(8), "end number 8"), (number(-8), "end number -8"), (IDENTITY, "end function"), (STUCK, "end stuck"),
                              (("pair", number(1), number(2)), "end pair"), (("keep", "k", name("k")), "end kept")]:
            desk = opened(program, ["fore 99"])
            self.assertEqual(desk.say("sight")[-1], told)
            self.assertEqual(len(desk.say("sight")), 4)

    def test_shown(self):
        desk = opened(("pair", ("show", number(1)), ("show", number(-20))))
        self.assertEqual([desk.say(f"to {moment}") and desk.say("sight")[2] for moment in range(6)],
                         ["shown", "shown", "shown 1", "shown 1", "shown 1 -20", "shown 1 -20"])

    def test_bills(self):
        self.assertEqual(opened(ENTERED).say("bill"), packed(bill(ENTERED)).split("\n"))
        self.assertEqual(opened(STUCK).say("bill"), ["none"])
        many = 1
        while True:
            try:
                bill(doubling(many))
            except TooMany as error:
                self.assertEqual(error.most, 20000)
                break
            many += 1
        self.assertEqual(opened(doubling(many)).say("bill"), ["too many"])
        self.assertEqual(opened(doubling(many - 1)).say("bill")[0], packed(bill(doubling(many - 1))).split("\n")[0])

    def test_each_line_over_each_program(self):
        r = random.Random(105)
        for program in PROGRAMS:
            desk = opened(program)
            deeds = []
            for line in random_deeds(r, program, 25):
                if r.random() < 0.4:
                    line = r.choice([*ASKING[:-1], f"why {r.randint(0, 9)}"])
                if is_deed(line):
                    session, told = recovered(desk.journal)
                    deeds.append(line)
                    answer = desk.say(line)
                    refused = answer == ["refused"]
                    self.assertEqual(desk.journal, told if refused else told + f"{line} = {answer[0]}\n")
                else:
                    self.assertEqual(desk.say(line), answered(desk.session, line))
                self.assertEqual(told_by(recovered(desk.journal)[0]), told_by(desk.session))
            self.assertEqual(desk.journal, journal(program, deeds))
            before = told_by(desk.session)
            wanted = folded(desk.journal)
            self.assertEqual(desk.say("fold"), ["rows " + str(len(wanted.split("\n")) - 1)])
            self.assertEqual((desk.journal, told_by(desk.session)), (wanted, before))

    def test_unknown_lines(self):
        desk = opened(TWICE, ["fore 3"])
        before = (desk.journal, told_by(desk.session))
        for line in UNKNOWN:
            self.assertEqual(desk.say(line), ["unknown"])
        self.assertEqual((desk.journal, told_by(desk.session)), before)

    def test_what_is_no_line(self):
        for desk in (Desk(), opened(TWICE)):
            before = (desk.journal, told_by(desk.session))
            for line in [value for value in ODD if not isinstance(value, str)] + ["\n", "sight\n", "fore 1\nfore 1", "program (show\n5)", b"sight"]:
                self.assertRaises(BadLine, desk.say, line)
            self.assertEqual((desk.journal, told_by(desk.session)), before)

    def test_a_list_answered_may_be_changed(self):
        desk = opened(TWICE, ["fore 3", "stop 1"])
        for line in ASKING + ["unknown", "fore 0", "program 5"]:
            found = desk.say(line)
            self.assertIsInstance(found, list)
            wanted = list(found)
            found.append("more")
            if line not in ("fold",):
                self.assertEqual(desk.say(line), wanted)


class OpenedAgainTest(unittest.TestCase):
    def test_cut_off_at_each_sign(self):
        lines = ["fore 3", "stop 1.2", "lead led", "to 99", "next stop", "fold", "next return 0", "lead code", "back 2"]
        desk = opened(TWICE, lines)
        whole = desk.journal
        self.assertGreater(whole.count("\n"), 5)
        for at in range(len(whole) + 1):
            again = Desk(whole[:at])
            rows = whole[:at].rpartition("\n")
            self.assertEqual(again.journal, rows[0] + rows[1])
            other = Desk(journal=rows[0] + rows[1])
            self.assertEqual(told_by(again.session), told_by(other.session))
            for line in ["sight", "dues", "stops", "why 0", "fore 2", "fold", "lead shared", "sight"]:
                self.assertEqual(again.say(line), other.say(line))
            self.assertEqual(again.journal, other.journal)

    def test_closed_and_opened_at_any_line(self):
        r = random.Random(1051)
        for program in PROGRAMS[::3]:
            lines = random_deeds(r, program, 20) + [r.choice(ASKING) for _ in range(12)]
            r.shuffle(lines)
            desk = opened(program)
            other = opened(program)
            for line in lines:
                self.assertEqual(other.say(line), desk.say(line))
                self.assertEqual((other.journal, told_by(other.session)), (desk.journal, told_by(desk.session)))
                if r.random() < 0.5:
                    other = Desk(other.journal + r.choice(["", "fore 1", "x", "program 5"]))

    def test_bad_journals(self):
        for value in [value for value in ODD if not isinstance(value, str)] + [b"", b"program 5\n"]:
            with self.assertRaises(BadJournal) as caught:
                Desk(value)
            self.assertIsNone(caught.exception.at)
        good = opened(TWICE, ["fore 3", "stop .", "back 1"]).journal
        rows = good.split("\n")[:-1]
        for value, at in [("\n", 1), ("5\n", 1), ("program x\n", 1), ("program  5\n", 1), ("program " + text(ENDLESS) + "\n", 1),
                          (good + "fore 1\n", 5), (good + "to 99 = refused\n", 5), (good.replace("fore 3 = 3", "fore 3 = 4"), 2),
                          (good.replace("yes", "no"), 3), (good + "\n", 5), ("\n".join([rows[0], *rows[2:]]) + "\n", 3)]:
            with self.assertRaises(BadJournal) as caught:
                Desk(value)
            self.assertEqual(caught.exception.at, at)

    def test_calls_stay_what_they_were(self):
        # A call of two numbers is stuck, and told so by a desk that was opened again.
        desk = opened(call(number(1), number(2)), ["fore 9"])
        self.assertEqual(Desk(desk.journal).say("sight"), desk.say("sight"))
        self.assertEqual(desk.say("lead led"), ["refused"])
        self.assertEqual(desk.journal, "program (call 1 2)\nfore 9 = 2\n")


if __name__ == "__main__":
    unittest.main()
