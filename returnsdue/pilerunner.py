"""A run of a program whose frames lie on a pile."""

from returnsdue.stepper import Runner


class PileRunner(Runner):
    """A run that puts its frames on a pile and takes them from there; marks tell those of kept places."""

    def __init__(self, program, pile):
        self.pile = pile
        self.marks = {}
        Runner.__init__(self, program)

    def put_up(self, kind, node, names, worth):
        """Put up a frame."""
        self.newest = self.pile.push((kind, node, names, worth, self.newest))

    def take(self):
        """The top frame, which takes its worth and is taken off."""
        row = self.pile.pop()
        self.newest = self.pile.top()
        return row

    def frame_of(self, birth):
        """The row of the frame with this birth, None if the pile does not hold it."""
        return self.pile.frame(birth)

    def keep_place(self, node):
        """Keep the place with the frames that wait now; its worth."""
        place = self.make(("kept", node, self.newest))
        self.marks[place[1]] = self.pile.kept()
        return place

    def enter_place(self, birth):
        """Let the frames of the kept place with this birth wait in the place of those that do."""
        self.pile.enter(self.marks[birth])
        self.newest = self.pile.top()
