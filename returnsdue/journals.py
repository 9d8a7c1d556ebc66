"""Journals: what a session has done, told so that it can be done again."""

from returnsdue.debugger import Session
from returnsdue.deeds import answer_told, deed_read, do_deed, is_line_of_deed, path_told
from returnsdue.errors import BadDeed, BadDeeds, BadJournal, BadSession, BadText, ReturnError, TooMany
from returnsdue.leading import PLAIN
from returnsdue.terms import check_program
from returnsdue.texts import read
from returnsdue.writing import written

BEGINNING = "program "
BETWEEN = " = "
REFUSED = "refused"


def is_deed(value):
    """Whether any value is a deed."""
    return isinstance(value, str) and is_line_of_deed(value)


def check_session_and_deed(session, deed):
    """Refuse what is no session, and what is no deed."""
    if not isinstance(session, Session):
        raise BadSession("this is no session")
    if not is_deed(deed):
        raise BadDeed("this is no deed")


def done(session, deed):
    """Do a deed; its answer."""
    check_session_and_deed(session, deed)
    return answer_of(session, deed)


def answer_of(session, deed):
    """Do what is known to be a deed; its answer."""
    try:
        return answer_told(do_deed(session, deed))
    except ReturnError:
        return REFUSED


def inverse(session, deed):
    """Do a deed; the list of the deeds, one at most, that lead the session back to where it stood."""
    check_session_and_deed(session, deed)
    moment = session.moment
    machine = session.machine
    answer = answer_of(session, deed)
    if session.moment != moment:
        return [f"to {moment}"]
    if session.machine != machine:
        return [f"lead {machine}"]
    name, given = deed_read(deed)
    if answer != "yes":
        return []
    return [("unstop " if name == "stop" else "stop ") + path_told(given)]


def row_of(deed, answer):
    """The row of a journal for a deed and its answer."""
    return deed + BETWEEN + answer + "\n"


def first_row(program):
    """The first row of the journals of a program."""
    return BEGINNING + written(program) + "\n"


def journal(program, deeds):
    """The journal of these deeds, without those that are refused."""
    check_program(program)
    if not isinstance(deeds, (list, tuple)):
        raise BadDeeds(None)
    for at, deed in enumerate(deeds):
        if not is_deed(deed):
            raise BadDeeds(at)
    session = Session(program)
    rows = [first_row(program)]
    for deed in deeds:
        answer = answer_of(session, deed)
        if answer != REFUSED:
            rows.append(row_of(deed, answer))
    return "".join(rows)


def session_of(row):
    """A new session of the program that the first row of a journal tells, without its line feed."""
    try:
        program = read(row[len(BEGINNING):])
        session = Session(program)
    except (BadText, TooMany):
        raise BadJournal(1)
    if first_row(program) != row + "\n":
        raise BadJournal(1)
    return session


def is_row_done(session, row):
    """Do the deed that a row of a journal tells; whether it is one, and has the answer told."""
    deed, _, answer = row.partition(BETWEEN)
    return is_deed(deed) and answer != REFUSED and answer_of(session, deed) == answer


def recovered(text):
    """The session to which a journal leads, and the journal without what is torn behind it."""
    if not isinstance(text, str):
        raise BadJournal(None)
    rows = text.split("\n")
    torn = rows.pop()
    if not rows:
        raise BadJournal(1)
    session = session_of(rows[0])
    for at, row in enumerate(rows[1:]):
        if not is_row_done(session, row):
            raise BadJournal(at + 2)
    return (session, text[:len(text) - len(torn)])


def folded(text):
    """The shortest journal that leads to where a journal leads."""
    session, _ = recovered(text)
    rows = [first_row(session.program)]
    if session.machine != PLAIN:
        rows.append(row_of("lead " + session.machine, PLAIN))
    rows.extend([row_of("stop " + path_told(path), "yes") for path in session.stops()])
    if session.moment != 0:
        rows.append(row_of(f"to {session.moment}", str(session.moment)))
    return "".join(rows)
