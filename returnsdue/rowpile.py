"""A pile that keeps a row for each frame ever put on it, until somebody takes the row away."""

from returnsdue.errors import Gone


class Rows:
    """A pile by which a run of code is told: what its frames are, and which of them are given a worth.

    rows is a dict from births to pairs (frame, birth of the frame below or None); marks tell the
    births of the top frames of the places kept; popped has the births that were taken off, in the
    order of time, and given how often each was. A frame whose birth is in away cannot be taken off.
    """

    def __init__(self):
        self.rows = {}
        self.given = []
        self.popped = []
        self.marks = []
        self.away = {}
        self.newest = None

    def push(self, frame):
        """Put a frame on the top; its birth."""
        birth = len(self.given)
        self.given.append(0)
        self.rows[birth] = (frame, self.newest)
        self.newest = birth
        return birth

    def pop(self):
        """The frame at the top, which is taken off; None without one."""
        if self.newest is None:
            return None
        if self.newest in self.away:
            raise Gone("frame", self.newest)
        self.given[self.newest] += 1
        self.popped.append(self.newest)
        frame, below = self.rows[self.newest]
        self.newest = below
        return frame

    def kept(self):
        """The new mark of the present frames."""
        self.marks.append(self.newest)
        return len(self.marks) - 1

    def enter(self, mark):
        """Make the frames of a mark the present ones."""
        self.newest = self.marks[mark]
