"""Pictures: runs cut out at a moment, from which some of what they had may be gone, and gone on with."""

from returnsdue.checks import check_most
from returnsdue.counts import counted
from returnsdue.errors import BadBirths, BadPicture, TooMany
from returnsdue.resuming import Resumed
from returnsdue.running import led_to
from returnsdue.sketching import is_whole_picture
from returnsdue.telling import told_state
from returnsdue.tracing import MOST_TRACED
from returnsdue.wholes import is_whole


def is_picture(value):
    """Whether any value is a picture."""
    return is_whole_picture(value)


def check_picture(value):
    """Refuse what is no picture."""
    if not is_whole_picture(value):
        raise BadPicture("this is no picture")


def picture_at(program, moment):
    """The picture of a run at a moment, with all that can be reached."""
    runner = led_to(program, moment)
    return (program, moment, (len(runner.frames), len(runner.things)), told_state(runner))


def picture_of(runner):
    """The picture of a run that was gone on with."""
    return (runner.program, runner.moment, (runner.frame_births, runner.thing_births), told_state(runner))


def onward(picture, many):
    """The picture so many steps on, or at the end if that comes first."""
    check_picture(picture)
    check_most(many)
    runner = Resumed(picture)
    runner.go_further(many)
    return picture_of(runner)


def rest(picture, most):
    """What the steps still to come show, how the run ends, and their counts; at most the first most."""
    check_picture(picture)
    check_most(most)
    runner = Resumed(picture)
    shown_so_far = len(runner.numbers)
    runner.go_further(most)
    end = ("more",) if runner.ended is None else runner.ended
    return (tuple(runner.numbers[shown_so_far:]), end, counted(runner.kinds))


def wanted(picture):
    """The picture with just those rows that the steps still to come look at."""
    check_picture(picture)
    runner = Resumed(picture)
    runner.go_further(MOST_TRACED)
    if runner.ended is None:
        raise TooMany(MOST_TRACED)
    _, _, frames, things, _ = picture[3]
    return with_rows(picture, rows_among(frames, runner.frames_met), rows_among(things, runner.things_met))


def rows_among(rows, births):
    """Those of these rows whose births are among some."""
    return {birth: rows[birth] for birth in rows if birth in births}


def rows_but(rows, births):
    """These rows without those of some births."""
    return {birth: rows[birth] for birth in rows if birth not in births}


def with_rows(picture, frames, things):
    """A picture with just these of its rows, and of these with just those that can be reached."""
    program, moment, born, (control, top, _, _, shown) = picture
    return picture_of(Resumed((program, moment, born, (control, top, frames, things, shown))))


def check_births(births):
    """Refuse what is no list of wholes."""
    if not isinstance(births, (list, tuple)):
        raise BadBirths("this is no list")
    for birth in births:
        if not is_whole(birth):
            raise BadBirths("something in the list is no whole")


def without(picture, frames, things):
    """A picture without the rows of these births, and without those that can no longer be reached."""
    check_picture(picture)
    check_births(frames)
    check_births(things)
    _, _, frame_rows, thing_rows, _ = picture[3]
    return with_rows(picture, rows_but(frame_rows, frames), rows_but(thing_rows, things))
