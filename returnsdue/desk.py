"""A desk: a session that is led by lines, and can be opened again by its journal."""

from returnsdue.billing import bill
from returnsdue.debugger import Session
from returnsdue.deeds import is_line_of_deed, is_number_told, path_told
from returnsdue.errors import BadJournal, BadLine, BadText, ReturnError, TooMany
from returnsdue.journals import BEGINNING, REFUSED, answer_of, first_row, folded, recovered, row_of
from returnsdue.packing import packed
from returnsdue.roads import roads
from returnsdue.texts import read

WHY = "why "


class Desk:
    """A session and its journal; without a program there is no session, and the journal is empty."""

    def __init__(self, journal=""):
        if not isinstance(journal, str):
            raise BadJournal(None)
        self.session = None
        self.journal = ""
        if "\n" in journal:
            self.session, self.journal = recovered(journal)

    def say(self, line):
        """Do or tell what a line asks for; a list of strings."""
        if not isinstance(line, str) or "\n" in line:
            raise BadLine("this is no string without a line feed")
        if line.startswith(BEGINNING):
            return self.begin_program(line[len(BEGINNING):])
        if line not in TELLING and not is_line_of_deed(line) and not is_why(line):
            return ["unknown"]
        if self.session is None:
            return ["no program"]
        if line in TELLING:
            action = TELLING[line]
            return action(self)
        if is_why(line):
            return why_told(self.session, int(line[len(WHY):]))
        return self.do_line(line)

    def begin_program(self, text):
        """Take a new session of the program with this text; its length, or why there is none."""
        try:
            program = read(text)
            self.session = Session(program)
        except BadText as refusal:
            return [f"refused {refusal.at}"]
        except TooMany:
            return ["too long"]
        self.journal = first_row(program)
        return [f"length {self.session.length}"]

    def do_line(self, line):
        """Do a deed, and put its row behind the journal unless it is refused; its answer."""
        answer = answer_of(self.session, line)
        if answer != REFUSED:
            self.journal += row_of(line, answer)
        return [answer]


def is_why(line):
    """Whether a line asks why a frame is still needed."""
    return line.startswith(WHY) and is_number_told(line[len(WHY):])


def why_told(session, birth):
    """The roads to a frame."""
    try:
        found = roads(session.program, session.moment, birth)
    except ReturnError:
        return [REFUSED]
    return [road_told(hops, step) for hops, step in found]


def road_told(hops, step):
    """A road: its step, and the steps that kept and entered the places on it."""
    return f"step {step}" + "".join([f" by {kept}:{entered}" for kept, entered in hops])


def words_told(items):
    """Items with a blank ahead of each."""
    return "".join([f" {item}" for item in items])


def tell_sight(desk):
    """Where the session stands, what comes next, what has been shown, and how the run ended."""
    session = desk.session
    moment, kind, shown, end = session.sight()
    told = [f"at {moment} of {session.length}"]
    told.append("next none" if kind is None else f"next {kind} at {path_told(session.where())}")
    told.append("shown" + words_told(shown))
    if end is not None:
        told.append("end" + words_told(end))
    return told


def tell_dues(desk):
    """The frames that still get returns, and how many."""
    return [f"{birth} {many}" for birth, many in desk.session.dues().items()]


def tell_stops(desk):
    """The stops."""
    return [path_told(path) for path in desk.session.stops()]


def tell_bill(desk):
    """The rows of the packed bill of the program."""
    try:
        found = bill(desk.session.program)
    except TooMany:
        return ["too many"]
    return ["none"] if found is None else packed(found).split("\n")


def tell_fold(desk):
    """Fold the journal; how many rows it has then."""
    desk.journal = folded(desk.journal)
    many = desk.journal.count("\n")
    return [f"rows {many}"]


TELLING = {"sight": tell_sight, "dues": tell_dues, "stops": tell_stops, "bill": tell_bill, "fold": tell_fold}
