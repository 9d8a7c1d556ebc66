"""Piles of each kind made to hold what another pile holds, as if it had been put there."""

from returnsdue.piles import Copied, Led, Shared, Split


class Lying:
    """What lies on a pile: the births present and of each mark, from the top down, and the frames.

    A frame that the pile does not hold any more is None.
    """

    def __init__(self, pile):
        self.next_birth = pile.next_birth
        self.copied = pile.copied
        self.present = pile.births()
        self.marked_births = [pile.marked(mark) for mark in range(len(pile.marks))]
        self.frames = {}
        for births in [self.present, *self.marked_births]:
            for birth in births:
                if birth not in self.frames:
                    self.frames[birth] = pile.frame(birth)

    def lost(self):
        """A dict with the births of the frames that are not held any more."""
        return {birth: True for birth in self.frames if self.frames[birth] is None}

    def row_of(self, births):
        """The row of pairs of births, which are told from the top down, and frames."""
        return [(birth, self.frames[birth]) for birth in reversed(births)]

    def cells(self):
        """A dict from the births to cells, each upon the one of the frame below; from None to None."""
        found = {None: None}
        for births in [self.present, *self.marked_births]:
            below = None
            for birth in reversed(births):
                if birth not in found:
                    found[birth] = (birth, self.frames[birth], found[below])
                below = birth
        return found

    def tops(self, cells):
        """The cells at the top of each mark."""
        return [cells[top_of(births)] for births in self.marked_births]


def top_of(births):
    """The first of these births, None without one."""
    return births[0] if births else None


def turned(lying, word, dues):
    """A pile of the kind with this word on which all that lies on another one lies."""
    action = TURNING[word]
    made = action(lying, dues)
    made.next_birth = lying.next_birth
    made.copied = lying.copied
    return made


def new_pile(word, dues):
    """An empty pile of the kind with this word."""
    return turned(Lying(Copied()), word, dues)


def turned_to_copied(lying, dues):
    """A row for the present frames, and one for each mark."""
    made = Copied()
    made.present = lying.row_of(lying.present)
    made.marks = [lying.row_of(births) for births in lying.marked_births]
    return made


def turned_to_shared(lying, dues):
    """Each frame once, with the frame below it."""
    made = Shared()
    cells = lying.cells()
    made.present = cells[top_of(lying.present)]
    made.marks = lying.tops(cells)
    return made


def turned_to_split(lying, dues):
    """The present frames that are of no mark in a row, all others sealed."""
    made = Split()
    cells = lying.cells()
    made.marks = lying.tops(cells)
    marked = {birth: True for births in lying.marked_births for birth in births}
    made.row = lying.row_of([birth for birth in lying.present if birth not in marked])
    made.sealed = cells[top_of([birth for birth in lying.present if birth in marked])]
    return made


def turned_to_led(lying, dues):
    """The frames that have returns left."""
    made = Led(dues)
    cells = lying.cells()
    made.present = cells[top_of(lying.present)]
    made.marks = lying.tops(cells)
    made.frames = {birth: lying.frames[birth] for birth in sorted(lying.frames) if made.left(birth) > 0}
    return made


TURNING = {
    "copied": turned_to_copied, "shared": turned_to_shared, "split": turned_to_split, "led": turned_to_led,
}
