"""A debugger that goes back and forth in the run of a program."""

from returnsdue.errors import BadBirth, BadMany, BadMoment, NotTold
from returnsdue.leading import CODE, kind_ahead, leader
from returnsdue.terms import check_path, check_program
from returnsdue.tracks import Track
from returnsdue.wholes import is_natural


class Session:
    """A run of a program at a moment, led there by a machine.

    track tells the run at every moment; paths_stopped is a dict from the stops to True.
    """

    def __init__(self, program, machine="plain"):
        check_program(program)
        self.leader = leader(program, machine)
        self.track = Track(program)
        self.program = program
        self.machine = machine
        self.moment = 0
        self.length = self.track.length
        self.paths_stopped = {}

    def sight(self):
        """The moment, the kind of the next step, what has been shown, and how the run ended."""
        return (self.moment, kind_ahead(self.leader), tuple(self.leader.shown()), self.leader.end())

    def where(self):
        """The path of the node whose step is next, None if there is none."""
        return self.track.places[self.moment]

    def dues(self):
        """How many returns the frames put up by now still get, those with none aside."""
        return self.track.dues_at(self.moment)

    def state(self):
        """What the machine tells of its frames."""
        self.check_telling()
        return self.leader.state()

    def held(self):
        """The births of the frames that the machine holds now."""
        self.check_telling()
        return tuple(self.leader.held())

    def check_telling(self):
        """Refuse to tell of frames while the machine has others than the program."""
        if self.machine == CODE:
            raise NotTold("the machine on code does not tell its frames")

    def lead(self, machine):
        """Go on with another machine at the same moment; the word of the one up to now."""
        self.leader = self.led_to(leader(self.program, machine), self.moment)
        before = self.machine
        self.machine = machine
        return before

    def led_to(self, machine, moment):
        """A machine behind so many steps as lead it to a moment."""
        while machine.moment < moment:
            machine.step()
        return machine

    def move(self, moment):
        """Go to a moment; this moment."""
        if moment < self.moment:
            self.leader = leader(self.program, self.machine)
        self.leader = self.led_to(self.leader, moment)
        self.moment = moment
        return moment

    def fore(self, many=1):
        """Go so many moments on, at most to the last one."""
        check_many(many)
        return self.move(min(self.moment + many, self.length))

    def back(self, many=1):
        """Go so many moments back, at most to the first one."""
        check_many(many)
        return self.move(max(self.moment - many, 0))

    def to(self, moment):
        """Go to a moment of the run."""
        if not is_natural(moment) or moment > self.length:
            raise BadMoment("the run has no such moment")
        return self.move(moment)

    def move_above(self, moments):
        """Go to the nearest of these moments above this one; None without one."""
        found = min([moment for moment in moments if moment > self.moment], default=None)
        return None if found is None else self.move(found)

    def move_below(self, moments):
        """Go to the nearest of these moments below this one; None without one."""
        found = max([moment for moment in moments if moment < self.moment], default=None)
        return None if found is None else self.move(found)

    def returns_known(self, birth):
        """The moments of all returns to a frame that has been put up by now."""
        if not is_natural(birth) or birth >= self.track.frames_born(self.moment):
            raise BadBirth("no frame has this birth by now")
        return self.track.returns_of(birth)

    def next_return(self, birth):
        """Go to the next step that returns to a frame."""
        return self.move_above(self.returns_known(birth))

    def last_return(self, birth):
        """Go back to the last step that returned to a frame."""
        return self.move_below(self.returns_known(birth))

    def next_show(self):
        """Go to the next step that shows a number."""
        return self.move_above(self.track.shows())

    def last_show(self):
        """Go back to the last step that showed a number."""
        return self.move_below(self.track.shows())

    def stop(self, path):
        """Add a stop; whether it was none."""
        check_path(self.program, path)
        was_none = path not in self.paths_stopped
        self.paths_stopped[path] = True
        return was_none

    def unstop(self, path):
        """Take a stop away; whether it was one."""
        check_path(self.program, path)
        was_one = path in self.paths_stopped
        if was_one:
            del self.paths_stopped[path]
        return was_one

    def stops(self):
        """The ascending list of the stops."""
        return sorted(self.paths_stopped)

    def next_stop(self):
        """Go to the next moment at which the next step is that of a stop."""
        return self.move_above(self.track.moments_at(self.paths_stopped))

    def last_stop(self):
        """Go back to the last moment at which the next step was that of a stop."""
        return self.move_below(self.track.moments_at(self.paths_stopped))


def check_many(many):
    """Refuse what is no whole from 0 on."""
    if not is_natural(many):
        raise BadMany("this is no whole from 0 on")
