"""Codes let by: whether each way through each block fits, and what is so at its places.

All ways through a block are gone at once, place by place. If they all fit, those that come to a
place come with one height: what lies ahead of all of them there is the same, and it ends only at
rows that need a certain height. So two heights at a place are a misfit.
"""

from returnsdue.codes import is_code
from returnsdue.errors import BadCode, Misfit

LEAST_HEIGHTS = {"let": 1, "open": 1, "choose": 1, "show": 1, "pair": 2, "work": 2, "call": 2}
EXACT_HEIGHTS = {"last": 2, "return": 1, "keeplast": 0}
# How many worths more lie on the pile behind a row from which all ways go on with the next place.
CHANGES = {
    "number": 1, "slot": 1, "held": 1, "self": 1, "fun": 1, "def": 0, "let": -1, "open": -1, "drop": 0,
    "pair": -1, "work": -1, "show": 0, "call": -1, "keeplast": 0,
}
# The indexes at which a row tells the slots that it sets.
SETTING = {"let": (1,), "open": (1, 2), "def": (3,), "keep": (1,), "keeplast": (1,)}


class Survey:
    """A block gone through on all ways at once, up to the first misfit.

    By places: how many ways come, with which height, and which slots are set on each of them, a
    dict from slots to True.
    """

    def __init__(self, block, first):
        _, _, self.rows = block
        self.coming = [0] * len(self.rows)
        self.heights = [None] * len(self.rows)
        self.slots_set = [None] * len(self.rows)
        self.over = 0
        self.is_fitting = True
        self.come(0, 0, first, 1)
        for place in range(len(self.rows)):
            if self.is_fitting and self.coming[place] > 0:
                self.go_through(place)

    def come(self, place, height, slots, many):
        """So many ways come to a place with this height, on each of them these slots set."""
        if place == len(self.rows):
            self.is_fitting = False
            return
        if self.coming[place] == 0:
            self.heights[place] = height
            self.slots_set[place] = slots
        elif self.heights[place] == height:
            self.slots_set[place] = {slot: True for slot in self.slots_set[place] if slot in slots}
        else:
            self.is_fitting = False
        self.coming[place] += many

    def go_through(self, place):
        """Go on from the row at a place on all ways that come there."""
        row = self.rows[place]
        word = row[0]
        height = self.heights[place]
        slots = self.slots_set[place]
        many = self.coming[place]
        if not has_its_needs(row, height, slots):
            self.is_fitting = False
        elif word == "last" or word == "return":
            self.over += many
        elif word == "go":
            self.come(row[1], height, slots, many)
        elif word == "choose":
            self.come(place + 1, height - 1, slots, many)
            self.come(row[1], height - 1, slots, many)
        elif word == "keep":
            self.come(place + 1, 0, slots_behind(row, slots), many)
            self.come(row[2], height + 1, slots, many)
        else:
            self.come(place + 1, height + CHANGES[word], slots_behind(row, slots), many)


def has_its_needs(row, height, slots):
    """Whether a row has the height and the slots that it needs."""
    word = row[0]
    if height != EXACT_HEIGHTS.get(word, height) or height < LEAST_HEIGHTS.get(word, 0):
        return False
    for slot in slots_needed(row):
        if slot not in slots:
            return False
    return True


def slots_needed(row):
    """The slots that must be set for a row."""
    if row[0] == "slot" or row[0] == "drop":
        return [row[1]]
    if row[0] == "fun" or row[0] == "def":
        return [pick[1] for pick in row[2] if pick[0] == "slot"]
    return []


def slots_behind(row, slots):
    """The slots that are set behind a row, where these are set ahead of it."""
    if row[0] == "drop":
        return {slot: True for slot in slots if slot != row[1]}
    if row[0] not in SETTING:
        return slots
    behind = dict(slots)
    for at in SETTING[row[0]]:
        behind[row[at]] = True
    return behind


def surveyed(code):
    """The surveys of the blocks of a code; what is no code is refused."""
    if not is_code(code):
        raise BadCode("this is no code")
    return [Survey(block, {0: True} if at > 0 else {}) for at, block in enumerate(code)]


def are_fitting(surveys):
    """Whether all of these blocks fit."""
    for survey in surveys:
        if not survey.is_fitting:
            return False
    return True


def surveyed_fitting(code):
    """The surveys of the blocks of a code that fits; any other value is refused."""
    surveys = surveyed(code)
    if not are_fitting(surveys):
        raise Misfit("the code has a way that does not fit")
    return surveys


def check_fitting(code):
    """Refuse what is no code that fits."""
    surveyed_fitting(code)


def fits(code):
    """Whether each way through each block of a code fits."""
    return are_fitting(surveyed(code))


def ways(code):
    """The numbers of ways, block by block."""
    return [survey.over for survey in surveyed_fitting(code)]


def heights(code):
    """For each block the height at each place, None where no way comes."""
    return [survey.heights for survey in surveyed_fitting(code)]


def sets(code):
    """For each block the slots that are set at each place on all ways, None where no way comes."""
    return [[slots_told(slots) for slots in survey.slots_set] for survey in surveyed_fitting(code)]


def slots_told(slots):
    """The ascending tuple of these slots, None for None."""
    return None if slots is None else tuple(sorted(slots))
