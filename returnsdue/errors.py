"""The errors of the package."""


class ReturnError(ValueError):
    """Every error of the package stands under this one."""


class BadBill(ReturnError):
    """What was passed is no bill of the program."""


class BadBirth(ReturnError):
    """No frame, or kept place, has this birth by now."""


class BadBirths(ReturnError):
    """What was passed is no list of births."""


class BadCode(ReturnError):
    """What was passed is no code."""


class BadDeed(ReturnError):
    """What was passed is no deed."""


class BadDeeds(ReturnError):
    """What was passed is no list of deeds."""

    def __init__(self, at):
        ReturnError.__init__(self, f"no deed: {at}")
        self.at = at


class BadDues(ReturnError):
    """What was passed is no list of wholes from 0 on."""


class BadExpression(ReturnError):
    """What was passed is no expression, or none would come."""


class BadFollowing(ReturnError):
    """The program is the translation of no program."""


class BadFrame(ReturnError):
    """None is no frame."""


class BadGifts(ReturnError):
    """What was passed is no list of gifts."""


class BadGone(ReturnError):
    """What was passed is no list of what is taken away."""


class BadImage(ReturnError):
    """The text is that of no picture."""


class BadJournal(ReturnError):
    """The text is no journal."""

    def __init__(self, at):
        ReturnError.__init__(self, f"no row of a journal: {at}")
        self.at = at


class BadLine(ReturnError):
    """What was passed is no line."""


class BadMany(ReturnError):
    """What was passed is no whole from 0 on."""


class BadMark(ReturnError):
    """The pile has no such mark."""


class BadMoment(ReturnError):
    """The run has no such moment."""


class BadMost(ReturnError):
    """What was passed is no whole from 0 to 100000."""


class BadName(ReturnError):
    """What was passed is no name, or one that stands there already."""


class BadNames(ReturnError):
    """What was passed is no list of names."""


class BadPass(ReturnError):
    """This pass cannot be done."""


class BadPasses(ReturnError):
    """These passes cannot be done one behind the other."""


class BadPath(ReturnError):
    """The path does not lead where it should."""


class BadPicture(ReturnError):
    """What was passed is no picture."""


class BadPile(ReturnError):
    """What was passed is no pile."""


class BadPlan(ReturnError):
    """What was passed is no plan."""


class BadProgram(ReturnError):
    """What was passed is no program."""


class BadReturns(ReturnError):
    """What was passed are no returns."""


class BadRow(ReturnError):
    """The text is no packed text."""

    def __init__(self, at):
        ReturnError.__init__(self, f"no row of a packed text: {at}")
        self.at = at


class BadSession(ReturnError):
    """What was passed is no session."""


class BadTelling(ReturnError):
    """What was passed is no tuple that is a telling."""


class BadText(ReturnError):
    """The text is none of an expression."""

    def __init__(self, at):
        ReturnError.__init__(self, f"no going on from here: {at}")
        self.at = at


class BadTold(ReturnError):
    """What was passed is no good end."""


class BadTree(ReturnError):
    """What was passed is not built as a tree is."""


class BadUses(ReturnError):
    """What was passed are no uses."""


class BadWidth(ReturnError):
    """What was passed is no whole from 1 to 200."""


class BadWord(ReturnError):
    """What was passed is no word of a machine."""


class Gone(ReturnError):
    """What is to be used is gone."""

    def __init__(self, word, birth):
        ReturnError.__init__(self, f"gone: {word} {birth}")
        self.word = word
        self.birth = birth


class Misfit(ReturnError):
    """The code has a way that does not fit."""


class NoBill(ReturnError):
    """The program has no bill, or the value is none of it."""


class NoName(ReturnError):
    """The node does not bind this name."""


class NotOver(ReturnError):
    """The run is not over within this many steps."""


class NotTold(ReturnError):
    """The machine that leads the session does not tell this."""


class TooMany(ReturnError):
    """There are more than the most that are allowed."""

    def __init__(self, most):
        ReturnError.__init__(self, f"more than {most}")
        self.most = most


class Unlike(ReturnError):
    """The bill changes outside of what was exchanged."""
