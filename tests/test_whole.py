"""Promises 1 and 2: whatever way a program is run, it shows the same and ends in the same way."""

import unittest

from returnsdue.ahead import copying, dues_from, tallies, told_ahead
from returnsdue.billing import bill
from returnsdue.codemachine import CodeMachine, code_steps, run_code, run_over
from returnsdue.collector import run_kept
from returnsdue.compiler import compiled
from returnsdue.debugger import Session
from returnsdue.desk import Desk
from returnsdue.errors import NoBill, TooMany
from returnsdue.following import back, following
from returnsdue.idle import due, run_without
from returnsdue.images import image, read_image
from returnsdue.judging import lines
from returnsdue.letting import run_letting_go, run_with_dues
from returnsdue.machines import Machine
from returnsdue.passing import last_form, passed, passes
from returnsdue.pictures import onward, picture_at, rest, wanted
from returnsdue.piles import Copied, Shared, Split
from returnsdue.running import run, steps
from returnsdue.sources import plain_names, source_of
from returnsdue.terms import is_program
from returnsdue.texts import read, text
from returnsdue.walking import dues, in_time
from tests.programs import BY_HAND, ENDLESS, STUCK, chained, random_programs, returning_programs
from tests.test_passing import PADDED

MOST = 300
PROGRAMS = BY_HAND + [STUCK, ENDLESS, chained(57)] + PADDED[::5] + random_programs(1, 100, is_program) + returning_programs(1, 40, is_program)
OVER = [program for program in PROGRAMS if run(program, MOST)[1] != ("more",)]


def walked(machine, most):
    """What a machine has shown, how it ended, and the kinds of its steps."""
    kinds = []
    while len(kinds) < most and machine.end() is None:
        ahead = machine.ahead()
        kinds.append(ahead if isinstance(ahead, str) else ahead[0])
        machine.step()
    return (tuple(machine.shown()), machine.end() or ("more",), tuple(kinds))


class OneRowOfKindsTest(unittest.TestCase):
    def test_runs_on_code_and_over_machines(self):
        for program in PROGRAMS:
            whole = run(program, MOST)
            wanted_steps = (*whole[:2], steps(program, MOST))
            code = compiled(program)
            self.assertEqual(run_code(code, MOST), whole)
            self.assertEqual(code_steps(code, MOST), wanted_steps[2])
            self.assertEqual(walked(CodeMachine(code), MOST), wanted_steps)
            for pile in (Copied(), Shared(), Split()):
                self.assertEqual(run_over(code, MOST, pile), whole)
            self.assertEqual(run_kept(code, MOST, [2, 0, 5])[:3], whole)
            for word in ("copied", "shared", "split", "led"):
                try:
                    machine = Machine(program, word)
                except (NoBill, TooMany):
                    self.assertEqual((word, whole[1] in (("stuck",), ("more",))), ("led", True))
                    continue
                self.assertEqual(walked(machine, MOST), wanted_steps)

    def test_runs_with_a_bill(self):
        for program in OVER:
            value = bill(program)
            if value is None:
                self.assertEqual(run(program, MOST)[1], ("stuck",))
                continue
            whole = run(program, MOST)
            self.assertEqual((value[0], lines(value[1])), whole[1:])
            self.assertEqual(tuple(kind for kind, _, _ in in_time(program, value)), steps(program, MOST))
            self.assertEqual(list(dues(program, value)), dues_from(program, 0))
            frames, things = tallies(program)
            self.assertEqual(told_ahead(program, value), (sorted(frames), sorted(things)))
            self.assertEqual(run_with_dues(program, list(dues(program, value)), MOST), whole)
            self.assertEqual(run_letting_go(program, [], MOST), whole)
            code = compiled(program)
            machine = Machine(program, "led")
            while machine.step():
                pass
            self.assertEqual(machine.copied, len(copying(program)))
            unused = [(0, "thing", birth) for birth in range(9) if birth not in due(code, 0, MOST)[1]]
            self.assertEqual(run_without(code, MOST, unused), whole)

    def test_translations_and_last_forms(self):
        for program in OVER:
            shown, end, _ = run(program, MOST)
            form = last_form(program)
            self.assertEqual(run(form, MOST)[:2], (shown, end))
            for word, path in passes(program)[:2]:
                self.assertEqual(run(passed(program, word, path), MOST)[:2], (shown, end))
            for one in (program, form):
                try:
                    made = following(one)
                except TooMany:
                    continue
                self.assertEqual(run(made, 100000)[:2], (shown, ("function",) if end == ("kept",) else end))
                self.assertEqual(back(made), one)
                self.assertEqual(run_code(compiled(made), 100000), run(made, 100000))

    def test_sessions_desks_and_images(self):
        for program in OVER:
            shown, end, _ = run(program, MOST)
            kinds = steps(program, MOST)
            desk = Desk()
            desk.say("program " + text(program))
            desk.say("to 3")
            desk = Desk(desk.journal + "torn")
            desk.say(f"fore {len(kinds)}")
            self.assertEqual(desk.session.sight(), (len(kinds), None, shown, end))
            for word in ("plain", "code", "split"):
                session = Session(program, word)
                session.fore(2)
                session.fore(400)
                self.assertEqual(session.sight(), (len(kinds), None, shown, end))
            for moment in {0, len(kinds) // 2, len(kinds)}:
                picture = read_image(image(picture_at(program, moment)))
                later = rest(picture, MOST)
                self.assertEqual((picture[3][4] + later[0], later[1]), (shown, end))
                self.assertEqual(onward(picture, MOST), picture_at(program, len(kinds)))
                self.assertEqual(rest(read_image(image(wanted(picture))), MOST), later)

    def test_texts_names_and_sources(self):
        for program in PROGRAMS:
            plain = plain_names(program)
            self.assertEqual((run(plain, MOST), compiled(plain)), (run(program, MOST), compiled(program)))
            self.assertEqual(source_of(compiled(program)), plain)
            self.assertEqual(read(text(program)), program)


if __name__ == "__main__":
    unittest.main()
