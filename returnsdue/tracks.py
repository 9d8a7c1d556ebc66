"""What is so at each moment of a run of at most 400 steps, whatever machine goes through it."""

from returnsdue.stepper import Runner, Trail
from returnsdue.telling import step_ahead
from returnsdue.tracing import MOST_TRACED, check_over


class Track:
    """A run that is over, told moment by moment.

    kinds has the kind of the step that leads to each moment but the first; places the path of the
    node whose step is next at each moment, None at the last one.
    """

    def __init__(self, program):
        runner = Runner(program, Trail())
        self.places = [place_ahead(runner)]
        while runner.moment < MOST_TRACED and runner.step():
            self.places.append(place_ahead(runner))
        check_over(runner)
        self.trail = runner.trail
        self.kinds = runner.kinds
        self.length = runner.moment

    def frames_born(self, moment):
        """How many frames have been put up by a moment."""
        frames, _ = self.trail.born[moment]
        return frames

    def dues_at(self, moment):
        """The dict from the births of the frames that still get returns to how many."""
        born = self.frames_born(moment)
        due = {}
        for at, birth in self.trail.taken:
            if at > moment and birth < born:
                due[birth] = due.get(birth, 0) + 1
        return {birth: due[birth] for birth in sorted(due)}

    def returns_of(self, birth):
        """The moments of the steps that return to a frame."""
        return [at for at, other in self.trail.taken if other == birth]

    def shows(self):
        """The moments of the steps that show a number."""
        return [at + 1 for at, kind in enumerate(self.kinds) if kind == "show"]

    def moments_at(self, paths):
        """The moments at which the node whose step is next stands at one of these paths."""
        return [moment for moment, place in enumerate(self.places) if place in paths]


def place_ahead(runner):
    """The path of the node whose step is next, None if the run is over."""
    ahead = step_ahead(runner)
    return None if ahead is None else ahead[1]
