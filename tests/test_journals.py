"""Promises 103 and 104: deeds, and journals that can be done again."""

import random
import unittest

from returnsdue.debugger import Session
from returnsdue.errors import BadDeed, BadDeeds, BadJournal, BadProgram, BadSession, TooMany
from returnsdue.journals import done, folded, inverse, is_deed, journal, recovered
from returnsdue.running import steps
from returnsdue.terms import is_program, paths
from returnsdue.texts import text
from tests.programs import BY_HAND, ENDLESS, ENTERED, STUCK, TWICE, loop, name, number, of_steps, random_programs
from tests.test_debugger import SHOWING, STUCK_LATER, WORDS, told_by, words_for
from tests.test_machines import ENTERED_BEHIND_FRAMES
from tests.values import NO_WHOLES, ODD

FIRST = "program " + text(TWICE) + "\n"
PROGRAMS = [program for program in BY_HAND + [STUCK, STUCK_LATER, SHOWING, ENTERED_BEHIND_FRAMES]
            + random_programs(1030, 20, is_program) if len(steps(program, 400)) < 400]


def dotted(path):
    return ".".join(str(at) for at in path) or "."


def random_deeds(r, program, many):
    """Deeds for a session of this program; now and then one that is refused."""
    found = []
    for _ in range(many):
        word = r.choice(["fore", "back", "to", "next return", "last return", "next show", "last show", "stop", "stop", "unstop",
                         "next stop", "last stop", "lead", "lead"])
        if word in ("fore", "back", "to", "next return", "last return"):
            word += f" {r.choice([0, 1, 1, 2, 3, 5, 9, 40, 10 ** 9 - 1])}"
        elif word in ("stop", "unstop"):
            word += " " + dotted(r.choice([*paths(program), (7,)]))
        elif word == "lead":
            word += " " + r.choice(WORDS)
        found.append(word)
    return found


def doing(session, deed):
    """The answer to a deed, by the session's own methods."""
    *words, last = deed.split(" ")
    if deed in ("next show", "last show", "next stop", "last stop"):
        words, given = deed.split(" "), []
    elif words[-1] in ("stop", "unstop"):
        given = [() if last == "." else tuple(int(at) for at in last.split("."))]
    else:
        given = [last if words == ["lead"] else int(last)]
    try:
        found = getattr(session, "_".join(words))(*given)
    except ValueError:
        return "refused"
    return {None: "none", True: "yes", False: "no"}[found] if found is None or isinstance(found, bool) else str(found)


class DeedTest(unittest.TestCase):
    def test_deeds(self):
        right = ["next show", "last show", "next stop", "last stop", "stop .", "unstop .", "stop 1", "stop 1.2.1", "stop 0",
                 "unstop 4.0.999999999", "stop 10.20", *["lead " + word for word in WORDS]]
        for word in ("fore", "back", "to", "next return", "last return"):
            right += [f"{word} {n}" for n in (0, 1, 9, 10, 100, 10 ** 9 - 1)]
        for deed in right:
            self.assertIs(is_deed(deed), True)
            for other in (deed + " ", " " + deed, deed + "\n", deed.replace(" ", "  "), deed.replace(" ", "\n"), deed + " 1",
                          deed.upper(), deed.replace(" ", ""), deed.replace(" ", "\t"), [deed], (deed,), deed.encode()):
                self.assertIs(is_deed(other), False)
        self.assertIs(is_deed(value="fore 1"), True)

    def test_no_deeds(self):
        for word in ("fore", "back", "to", "next return", "last return"):
            for n in ("00", "01", "007", "-1", "+1", str(10 ** 9), "1.0", "1_0", "\u0661", "\u00b2", "", ".", "1.2", "one", "0x1"):
                self.assertIs(is_deed(f"{word} {n}"), False)
            self.assertIs(is_deed(word), False)
        for word in ("stop", "unstop"):
            for path in ("", "..", "1.", ".1", "1..2", "01", "1.02", "-1", "1000000000", "1.1000000000", "1,2", "()", "1 2",
                         "a", "\u0661", "1. 2"):
                self.assertIs(is_deed(f"{word} {path}"), False)
        for other in ("lead", "lead ", "lead none", "lead Led", "lead plain plain", "leads plain", "next", "next show 1", "last",
                      "show", "next  show", "go 1", "", " ", "next show ", "sight", "dues", "stops", "step 1", "next step 1"):
            self.assertIs(is_deed(other), False)
        for value in [*ODD, *NO_WHOLES, ["fore 1"], ("fore", 1), {"fore": 1}, Session(TWICE)]:
            self.assertIs(is_deed(value), False)


class DoneTest(unittest.TestCase):
    def test_by_hand(self):
        session = Session(SHOWING)
        told = [("fore 3", "3"), ("back 1", "2"), ("to 99", "refused"), ("to 5", "5"), ("fore 0", "5"), ("next return 0", "none"),
                ("last return 0", "3"), ("last return 7", "refused"), ("next show", "5"), ("next show", "6"), ("next show", "none"),
                ("last show", "5"), ("stop .", "yes"), ("stop .", "no"), ("stop 2", "yes"), ("unstop 2.1", "no"),
                ("stop 1", "refused"), ("last stop", "2"), ("last stop", "1"), ("last stop", "none"), ("unstop .", "yes"),
                ("unstop .", "no"), ("lead led", "plain"), ("lead led", "led"), ("lead code", "led"), ("fore 999999999", "6"),
                ("back 999999999", "0"), ("to 0", "0"), ("unstop 7", "refused"), ("next return 0", "3")]
        for deed, answer in told:
            self.assertEqual(done(session, deed), answer, deed)
        self.assertEqual((session.moment, session.machine, session.stops()), (3, "code", [(2,)]))
        session = Session(STUCK_LATER)
        self.assertEqual([done(session, deed) for deed in ("lead led", "lead shared", "fore 9")], ["refused", "plain", "4"])
        self.assertEqual(done(deed="back 2", session=session), "2")

    def test_it_calls_the_method_of_this_name(self):
        r = random.Random(8)
        for program in PROGRAMS:
            one, other = Session(program), Session(program)
            for deed in random_deeds(r, program, 40):
                before = told_by(one)
                answer = done(one, deed)
                self.assertEqual(answer, doing(other, deed))
                self.assertEqual(told_by(one), told_by(other))
                if answer in ("refused", "none"):
                    self.assertEqual(told_by(one), before)

    def test_refused(self):
        for told in (done, inverse):
            for value in [None, 0, "", TWICE, [], FIRST, Session]:
                self.assertRaises(BadSession, told, value, "fore 1")
                self.assertRaises(BadSession, told, value, None)
            session = Session(TWICE)
            for value in [*ODD, "fore", "fore 01", "go 1"]:
                self.assertRaises(BadDeed, told, session, value)
            self.assertEqual(session.moment, 0)


class InverseTest(unittest.TestCase):
    def test_by_hand(self):
        session = Session(SHOWING)
        told = [("fore 3", ["to 0"]), ("fore 0", []), ("to 3", []), ("to 99", []), ("back 1", ["to 3"]), ("next show", ["to 2"]),
                ("last show", ["to 5"]), ("next return 0", ["to 2"]), ("next return 0", []), ("last return 0", []),
                ("stop .", ["unstop ."]), ("stop .", []), ("stop 2.1", ["unstop 2.1"]), ("unstop .", ["stop ."]),
                ("unstop .", []), ("unstop 2.1", ["stop 2.1"]), ("stop 9", []), ("lead split", ["lead plain"]),
                ("lead split", []), ("lead code", ["lead split"]), ("next stop", []), ("stop 3", ["unstop 3"]),
                ("last stop", []), ("next stop", ["to 3"]), ("last return 9", [])]
        for deed, back in told:
            self.assertEqual(inverse(session, deed), back, deed)
        self.assertEqual(inverse(deed="to 0", session=session), ["to 5"])

    def test_it_leads_back(self):
        r = random.Random(9)
        for program in PROGRAMS:
            session = Session(program, r.choice(words_for(program)))
            other = Session(program, session.machine)
            for deed in random_deeds(r, program, 30):
                before = told_by(session)
                back = inverse(session, deed)
                answer = done(other, deed)
                self.assertEqual(told_by(session), told_by(other))
                self.assertLessEqual(len(back), 1)
                self.assertEqual(back == [], told_by(session) == before)
                if answer == "refused":
                    self.assertEqual(back, [])
                for one in back:
                    self.assertIs(is_deed(one), True)
                    self.assertIn(one.split(" ")[0], ("to", "stop", "unstop", "lead"))
                    self.assertNotIn(done(session, one), ("refused", "none", "no"))
                self.assertEqual(told_by(session), before)
                done(session, deed)


class JournalTest(unittest.TestCase):
    def test_example(self):
        self.assertEqual(journal(TWICE, ["fore 3", "to 99", "stop .", "back 1"]),
                         FIRST + "fore 3 = 3\nstop . = yes\nback 1 = 2\n")

    def test_by_hand(self):
        self.assertEqual(journal(TWICE, []), FIRST)
        self.assertEqual(journal(program=TWICE, deeds=()), FIRST)
        self.assertEqual(journal(number(5), ("lead led", "next show", "fore 5", "unstop .")),
                         "program 5\nlead led = plain\nnext show = none\nfore 5 = 1\nunstop . = no\n")
        self.assertEqual(journal(STUCK, ["lead led", "to 9"]), "program (call 1 2)\n")

    def test_answers(self):
        r = random.Random(10)
        for program in PROGRAMS:
            deeds = random_deeds(r, program, 25)
            session = Session(program)
            rows = [f"{deed} = {answer}\n" for deed in deeds for answer in [doing(session, deed)] if answer != "refused"]
            self.assertEqual(journal(program, deeds), "program " + text(program) + "\n" + "".join(rows))

    def test_refused(self):
        for value in ODD:
            self.assertRaises(BadProgram, journal, value, None)
        self.assertRaises(BadProgram, journal, name("x"), None)
        for deeds in (None, 5, "fore 1", {}, {"fore 1": 1}, {"fore 1"}, Session(TWICE)):
            with self.assertRaises(BadDeeds) as caught:
                journal(ENDLESS, deeds)
            self.assertIsNone(caught.exception.at)
        for deeds, at in (([None], 0), (["fore 1", "fore"], 1), (["fore 1", "to 99", "fore 01", "x"], 2), ([["fore 1"]], 0),
                          (["fore 1"] * 9 + [True], 9)):
            with self.assertRaises(BadDeeds) as caught:
                journal(ENDLESS, deeds)
            self.assertEqual(caught.exception.at, at)
        for program in (ENDLESS, of_steps(401)):
            with self.assertRaises(TooMany) as caught:
                journal(program, ["fore 1"])
            self.assertEqual(caught.exception.most, 400)
        self.assertTrue(journal(of_steps(400), ["fore 400"]).endswith("\nfore 400 = 400\n"))


class RecoveredTest(unittest.TestCase):
    def at_of(self, value):
        told = []
        for read in (recovered, folded):
            with self.assertRaises(BadJournal) as caught:
                read(value)
            told.append(caught.exception.at)
        self.assertEqual(told[0], told[1])
        return told[0]

    def test_every_beginning(self):
        whole = journal(SHOWING, ["fore 3", "stop 2.1", "lead led", "back 1", "next stop", "last show"])
        for at in range(len(whole) + 1):
            rows = whole[:at].count("\n")
            if rows == 0:
                self.assertEqual(self.at_of(whole[:at]), 1)
                continue
            session, kept = recovered(whole[:at])
            self.assertEqual(kept, whole[:whole[:at].rindex("\n") + 1])
            other = Session(SHOWING)
            for row in kept.split("\n")[1:-1]:
                deed, answer = row.split(" = ")
                self.assertEqual(done(other, deed), answer)
            self.assertEqual(told_by(session), told_by(other))

    def test_what_is_torn_is_no_row(self):
        for torn in ("", "x", "fore 3 = 3", "fore 99 = 1", "program 5", "\t", " ", "= = ="):
            session, kept = recovered(FIRST + "fore 2 = 2\n" + torn)
            self.assertEqual((session.moment, session.program, kept), (2, TWICE, FIRST + "fore 2 = 2\n"))
            session, kept = recovered(text=FIRST + torn)
            self.assertEqual((session.moment, session.machine, session.stops(), kept), (0, "plain", [], FIRST))

    def test_first_rows(self):
        for first in ("", "program", "program ", "program 05", "program  5", "program 5 ", " program 5", "Program 5", "program (show 5",
                      "program (show  5)", "program (show\t5)", "program x", "program (plus 1(show 2))", "journal 5", "5",
                      "program " + text(of_steps(401)), "program " + text(ENDLESS), "program 5\r", "prpgram 5", "program(show 5)"):
            self.assertEqual(self.at_of(first + "\n"), 1, first)
            self.assertEqual(self.at_of(first + "\nfore x = 1\n"), 1, first)
        self.assertEqual(self.at_of("program 5"), 1)
        self.assertEqual(self.at_of(""), 1)
        self.assertEqual(self.at_of("\n"), 1)
        self.assertEqual(self.at_of("\nprogram 5\n"), 1)
        session, kept = recovered("program " + text(of_steps(400)) + "\n")
        self.assertEqual((session.length, session.program), (400, of_steps(400)))

    def test_rows_that_are_wrong(self):
        good = FIRST + "fore 3 = 3\nstop . = yes\n"
        for row in ("back 1 = 3", "back 1 = 2 ", "back 1 =2", "back 1  = 2", "back 1 = 02", "back 01 = 2", " back 1 = 2", "back 1",
                    "back 1 = ", "back 1 = none", "to 99 = refused", "stop . = yes", "stop 9 = refused", "stop 9 = yes", "", "= 2",
                    "unstop . = no", "lead led = led", "lead none = plain", "next show = 9", "next show", "back 1 = 2 = 2",
                    "back 1 == 2", "program 5", "next return 77 = refused", FIRST[:-1], "BACK 1 = 2"):
            self.assertEqual(self.at_of(good + row + "\n"), 4, row)
            self.assertEqual(self.at_of(good + row + "\nback 1 = 2\n"), 4, row)
            self.assertEqual(self.at_of(good + "back 1 = 2\n" + row + "\nx\n"), 5, row)
            self.assertEqual(recovered(good + row)[1], good)
        self.assertEqual(recovered(good + "back 1 = 2\n")[1], good + "back 1 = 2\n")

    def test_answers_changed(self):
        whole = journal(ENTERED, ["fore 2", "stop 2", "unstop 1", "next return 0", "lead split", "last stop"])
        rows = whole.split("\n")[:-1]
        for at, row in enumerate(rows[1:], 2):
            deed, answer = row.split(" = ")
            for other in ("0", "1", "2", "3", "4", "none", "yes", "no", "refused", "plain", "split", ""):
                if other != answer:
                    changed = rows[:at - 1] + [deed + " = " + other] + rows[at:]
                    self.assertEqual(self.at_of("\n".join(changed) + "\n"), at)

    def test_without_rows_of_lead(self):
        r = random.Random(11)
        for program in PROGRAMS:
            whole = journal(program, random_deeds(r, program, 30))
            session, kept = recovered(whole)
            self.assertEqual(kept, whole)
            rest = "".join(row + "\n" for row in whole.split("\n")[:-1] if not row.startswith("lead "))
            other, kept = recovered(rest)
            self.assertEqual((kept, other.machine), (rest, "plain"))
            other.lead(session.machine)
            self.assertEqual(told_by(session), told_by(other))

    def test_no_strings(self):
        for value in [None, 5, b"program 5\n", ["program 5\n"], ("program 5\n",), {}, True, Session(TWICE)]:
            self.assertIsNone(self.at_of(value))

    def test_sessions_of_their_own(self):
        whole = journal(TWICE, ["fore 3"])
        one, other = recovered(whole)[0], recovered(whole)[0]
        one.fore()
        self.assertEqual((one.moment, other.moment), (4, 3))


class FoldedTest(unittest.TestCase):
    def test_by_hand(self):
        self.assertEqual(folded(FIRST), FIRST)
        self.assertEqual(folded(FIRST + "fore 3 = 3\nback 3 = 0\ntorn"), FIRST)
        whole = journal(TWICE, ["stop 4.1", "stop .", "fore 5", "lead led", "stop 1", "unstop 1", "stop 4", "back 1", "lead code"])
        self.assertEqual(folded(whole), FIRST + "lead code = plain\nstop . = yes\nstop 4 = yes\nstop 4.1 = yes\nto 4 = 4\n")
        self.assertEqual(folded(text=journal(TWICE, ["lead led", "lead plain", "fore 99"])), FIRST + "to 20 = 20\n")

    def test_the_session_stands_as_before(self):
        r = random.Random(12)
        for program in PROGRAMS:
            whole = journal(program, random_deeds(r, program, r.randint(0, 30)))
            session, _ = recovered(whole)
            short = folded(whole)
            other, kept = recovered(short)
            self.assertEqual((kept, told_by(other)), (short, told_by(session)))
            self.assertEqual((folded(short), folded(whole + "x")), (short, short))
            changes = (session.machine != "plain") + len(session.stops()) + (session.moment != 0)
            self.assertEqual(short.count("\n"), 1 + changes)
            self.assertLessEqual(short.count("\n"), whole.count("\n"))

    def test_long_journals(self):
        program = loop(3, name("v"))
        deeds = ["fore 7", "back 3", "stop .", "next stop", "unstop .", "lead split", "lead led"] * 60
        whole = journal(program, deeds)
        self.assertEqual(whole.count("\n"), 421)
        session, kept = recovered(whole)
        self.assertEqual((kept, session.machine, session.stops()), (whole, "led", []))


if __name__ == "__main__":
    unittest.main()
