"""Piles of frames: four kinds that tell the same and hold their frames in different ways."""

from returnsdue.cells import births_below, cells_under, check_frame, check_mark, frame_in, frame_under
from returnsdue.errors import BadDues, Gone
from returnsdue.wholes import is_natural


class Copied:
    """A pile that holds a row of its own for the present frames and for each mark."""

    def __init__(self):
        self.copied = 0
        self.next_birth = 0
        self.present = []
        self.marks = []

    def push(self, frame):
        """Put a frame on the top; its birth."""
        check_frame(frame)
        birth = self.next_birth
        self.next_birth += 1
        self.present.append((birth, frame))
        return birth

    def top(self):
        """The birth of the frame at the top, None without one."""
        return self.present[-1][0] if self.present else None

    def pop(self):
        """The frame at the top, which is taken off; None without one."""
        return self.present.pop()[1] if self.present else None

    def kept(self):
        """The new mark of the present frames, all of which are copied."""
        self.marks.append(list(self.present))
        self.copied += len(self.present)
        return len(self.marks) - 1

    def enter(self, mark):
        """Make copies of all frames of a mark the present ones."""
        check_mark(mark, self.marks)
        self.present = list(self.marks[mark])
        self.copied += len(self.present)

    def size(self):
        """How many frames are present."""
        return len(self.present)

    def births(self):
        """The births of the present frames, from the top down."""
        return [birth for birth, _ in reversed(self.present)]

    def marked(self, mark):
        """The births of the frames of a mark, from the top down."""
        check_mark(mark, self.marks)
        return [birth for birth, _ in reversed(self.marks[mark])]

    def frame(self, birth):
        """The frame with this birth if the pile holds it, otherwise None."""
        if not is_natural(birth):
            return None
        for row in [self.present, *self.marks]:
            found = frame_in(row, birth)
            if found is not None:
                return found
        return None

    def held(self):
        """The births of all frames that the pile holds, each as often as it holds it."""
        return sorted([birth for row in [self.present, *self.marks] for birth, _ in row])


class Shared:
    """A pile that holds each frame once, with the frame below it."""

    def __init__(self):
        self.copied = 0
        self.next_birth = 0
        self.present = None
        self.marks = []

    def push(self, frame):
        """Put a frame on the top; its birth."""
        check_frame(frame)
        birth = self.next_birth
        self.next_birth += 1
        self.present = (birth, frame, self.present)
        return birth

    def top(self):
        """The birth of the frame at the top, None without one."""
        return None if self.present is None else self.present[0]

    def pop(self):
        """The frame at the top, which is taken off; None without one."""
        if self.present is None:
            return None
        _, frame, below = self.present
        self.present = below
        return frame

    def kept(self):
        """The new mark of the present frames."""
        self.marks.append(self.present)
        return len(self.marks) - 1

    def enter(self, mark):
        """Make the frames of a mark the present ones."""
        check_mark(mark, self.marks)
        self.present = self.marks[mark]

    def size(self):
        """How many frames are present."""
        return len(births_below(self.present))

    def births(self):
        """The births of the present frames, from the top down."""
        return births_below(self.present)

    def marked(self, mark):
        """The births of the frames of a mark, from the top down."""
        check_mark(mark, self.marks)
        return births_below(self.marks[mark])

    def frame(self, birth):
        """The frame with this birth if the pile holds it, otherwise None."""
        return frame_under([self.present, *self.marks], birth)

    def held(self):
        """The births of all frames that the pile holds."""
        return sorted(cells_under([self.present, *self.marks]))


class Split:
    """A pile that holds the newest frames in a row, and those below it sealed, each once.

    A frame is sealed when a place is kept; from then on it is copied whenever it is taken off.
    """

    def __init__(self):
        self.copied = 0
        self.next_birth = 0
        self.row = []
        self.sealed = None
        self.marks = []

    def push(self, frame):
        """Put a frame on the top; its birth."""
        check_frame(frame)
        birth = self.next_birth
        self.next_birth += 1
        self.row.append((birth, frame))
        return birth

    def top(self):
        """The birth of the frame at the top, None without one."""
        if self.row:
            return self.row[-1][0]
        return None if self.sealed is None else self.sealed[0]

    def pop(self):
        """The frame at the top, which is taken off; None without one. A sealed one is copied."""
        if self.row:
            return self.row.pop()[1]
        if self.sealed is None:
            return None
        self.copied += 1
        _, frame, below = self.sealed
        self.sealed = below
        return frame

    def kept(self):
        """The new mark of the present frames, all of which are sealed now."""
        for birth, frame in self.row:
            self.sealed = (birth, frame, self.sealed)
        self.row = []
        self.marks.append(self.sealed)
        return len(self.marks) - 1

    def enter(self, mark):
        """Make the frames of a mark the present ones."""
        check_mark(mark, self.marks)
        self.row = []
        self.sealed = self.marks[mark]

    def size(self):
        """How many frames are present."""
        return len(self.row) + len(births_below(self.sealed))

    def births(self):
        """The births of the present frames, from the top down."""
        return [birth for birth, _ in reversed(self.row)] + births_below(self.sealed)

    def marked(self, mark):
        """The births of the frames of a mark, from the top down."""
        check_mark(mark, self.marks)
        return births_below(self.marks[mark])

    def frame(self, birth):
        """The frame with this birth if the pile holds it, otherwise None."""
        found = frame_in(self.row, birth) if is_natural(birth) else None
        return frame_under([self.sealed, *self.marks], birth) if found is None else found

    def held(self):
        """The births of all frames that the pile holds."""
        return sorted([birth for birth, _ in self.row] + list(cells_under(self.marks)))


class Led:
    """A pile that holds each frame only as long as it has returns left, which dues tell by births."""

    def __init__(self, dues):
        self.copied = 0
        self.next_birth = 0
        self.remaining = dues_told(dues)
        self.frames = {}
        self.present = None
        self.marks = []

    def push(self, frame):
        """Put a frame on the top; its birth. It is held only if it has returns left."""
        check_frame(frame)
        birth = self.next_birth
        self.next_birth += 1
        self.present = (birth, None, self.present)
        if self.left(birth) > 0:
            self.frames[birth] = frame
        return birth

    def left(self, birth):
        """How many returns a frame has left."""
        return self.remaining[birth] if birth < len(self.remaining) else 0

    def top(self):
        """The birth of the frame at the top, None without one."""
        return None if self.present is None else self.present[0]

    def pop(self):
        """The frame at the top, which is taken off and stays held, as a copy, if returns are left."""
        if self.present is None:
            return None
        birth, _, below = self.present
        if birth not in self.frames:
            raise Gone("frame", birth)
        frame = self.frames[birth]
        self.present = below
        self.remaining[birth] -= 1
        if self.remaining[birth] > 0:
            self.copied += 1
        else:
            del self.frames[birth]
        return frame

    def kept(self):
        """The new mark of the present frames."""
        self.marks.append(self.present)
        return len(self.marks) - 1

    def enter(self, mark):
        """Make the frames of a mark the present ones."""
        check_mark(mark, self.marks)
        self.present = self.marks[mark]

    def size(self):
        """How many frames are present, those among them that are not held any more."""
        return len(births_below(self.present))

    def births(self):
        """The births of the present frames, from the top down."""
        return births_below(self.present)

    def marked(self, mark):
        """The births of the frames of a mark, from the top down."""
        check_mark(mark, self.marks)
        return births_below(self.marks[mark])

    def frame(self, birth):
        """The frame with this birth if the pile holds it, otherwise None."""
        return self.frames.get(birth) if is_natural(birth) else None

    def held(self):
        """The births of all frames that the pile holds."""
        return sorted(self.frames)


def dues_told(dues):
    """A new list of these dues; refused unless they are a list of wholes from 0 on."""
    if not isinstance(dues, (list, tuple)):
        raise BadDues("dues are no list")
    for due in dues:
        if not is_natural(due):
            raise BadDues("a due is no whole from 0 on")
    return list(dues)
