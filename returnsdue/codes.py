"""Codes: whether a value is one."""

from returnsdue.wholes import WORKS, is_natural, is_number, is_whole

MOST_PLACES = 2000
ROW_LENGTHS = {
    "number": 2, "slot": 2, "held": 2, "self": 1, "fun": 3, "def": 4, "let": 2, "open": 3, "drop": 2,
    "choose": 2, "go": 2, "pair": 1, "work": 2, "show": 1, "call": 1, "last": 1, "return": 1,
    "keep": 3, "keeplast": 2,
}


class Block:
    """A block of a code, at its index among the blocks, as far as its rows hang on it."""

    def __init__(self, blocks, at):
        self.blocks = blocks
        self.at = at
        held, slots, rows = blocks[at]
        self.many_held = held
        self.many_slots = slots
        self.rows = rows

    def is_slot(self, value):
        """Whether value is a slot of the block."""
        return is_natural(value) and value < self.many_slots

    def is_held(self, value):
        """Whether value is one of the held worths of the block."""
        return is_natural(value) and value < self.many_held

    def is_place(self, value, place):
        """Whether value is a place of the block behind this one."""
        return is_whole(value) and place < value < len(self.rows)

    def is_reach(self, value):
        """Whether value is a slot, held or self row of the block."""
        if not is_plain_row(value):
            return False
        if value[0] == "slot":
            return self.is_slot(value[1])
        if value[0] == "held":
            return self.is_held(value[1])
        return value[0] == "self" and self.at > 0

    def is_picking(self, other, picks):
        """Whether picks are as many as the block with this number has held, each one that may be."""
        if not is_whole(other) or not 1 <= other < len(self.blocks) or not isinstance(picks, tuple):
            return False
        if len(picks) != self.blocks[other][0]:
            return False
        for pick in picks:
            if not self.is_reach(pick):
                return False
        return True

    def is_row(self, row, place):
        """Whether any value may be the row at this place of the block."""
        if not is_plain_row(row):
            return False
        word = row[0]
        if word in ("slot", "held", "self"):
            return self.is_reach(row)
        if word == "number":
            return is_number(row[1])
        if word == "work":
            return row[1] in WORKS
        if word in ("fun", "def"):
            return self.is_picking(row[1], row[2]) and (word == "fun" or self.is_slot(row[3]))
        if word in ("let", "drop", "keeplast"):
            return self.is_slot(row[1])
        if word == "open":
            return self.is_slot(row[1]) and self.is_slot(row[2]) and row[1] != row[2]
        if word in ("choose", "go"):
            return self.is_place(row[1], place)
        if word == "keep":
            return self.is_slot(row[1]) and self.is_place(row[2], place)
        return True

    def is_right(self):
        """Whether all rows may stand where they stand."""
        for place, row in enumerate(self.rows):
            if not self.is_row(row, place):
                return False
        return True


def is_plain_row(value):
    """Whether value is a tuple that begins with the word of a row and is as long as such a row."""
    if not isinstance(value, tuple) or not value or not isinstance(value[0], str):
        return False
    return value[0] in ROW_LENGTHS and len(value) == ROW_LENGTHS[value[0]]


def is_block(value, at):
    """Whether value may be the block at an index, whatever its rows are."""
    if not isinstance(value, tuple) or len(value) != 3:
        return False
    held, slots, rows = value
    if not is_natural(held) or not is_natural(slots) or held > MOST_PLACES or slots > MOST_PLACES:
        return False
    if not isinstance(rows, tuple) or not rows:
        return False
    return held == 0 if at == 0 else slots >= 1


def is_code(value):
    """Whether any value is a code."""
    if not isinstance(value, tuple) or not value:
        return False
    places = 0
    for at, block in enumerate(value):
        if not is_block(block, at):
            return False
        places += len(block[2])
    if places > MOST_PLACES:
        return False
    for at in range(len(value)):
        if not Block(value, at).is_right():
            return False
    return True
