"""Whether values are pictures of runs."""

from returnsdue.demands import is_good_end
from returnsdue.nodes import planted
from returnsdue.resuming import node_at
from returnsdue.telling import names_of_function, names_waiting
from returnsdue.telling import reached_from_control, reached_from_frame, reached_from_thing
from returnsdue.terms import is_leading, is_program
from returnsdue.trees import are_all, is_tuple_of
from returnsdue.wholes import is_natural, is_number
from returnsdue.worths import is_workable

# The words of the nodes that put up the frames of each kind, kinds ascending.
WORDS_OF_KINDS = {
    "call1": "call", "call2": "call", "choose": "choose", "let": "let", "open": "open", "pair1": "pair",
    "pair2": "pair", "show": "show", "work1": "work", "work2": "work",
}
WITH_WORTH = ("call2", "pair2", "work2")
TAKING_ANY = ("let", "pair2")
TAKING_NUMBERS = ("choose", "show")
MAKING_FUNCTIONS = ("fun", "def")
EVALUATED = ("name", "number", "fun", "def", "keep")


def is_end(value):
    """Whether value is a good end to which a run may come."""
    return is_good_end(value) and (value[0] != "number" or is_number(value[1]))


class Sketch:
    """What a value in the place of a picture tells, to be judged against its program.

    frames and things are dicts, whatever they have in them; born are two wholes.
    """

    def __init__(self, program, born, frames, things):
        self.program = program
        self.root = planted(program)
        self.frame_births = born[0]
        self.thing_births = born[1]
        self.frames = frames
        self.things = things

    def is_frame_or_none(self, value):
        """Whether value is None or the birth of a frame."""
        return value is None or (is_natural(value) and value < self.frame_births)

    def is_worth(self, value):
        """Whether value is a worth."""
        if not is_tuple_of(value, 2):
            return False
        if value[0] == "number":
            return is_number(value[1])
        return value[0] == "thing" and is_natural(value[1]) and value[1] < self.thing_births

    def are_names(self, value, names):
        """Whether value tells these names, in their order, each with a worth."""
        if not is_tuple_of(value, len(names)):
            return False
        for pair, name in zip(value, names):
            if not is_tuple_of(pair, 2) or pair[0] != name or not self.is_worth(pair[1]):
                return False
        return True

    def node_led_to(self, path, words):
        """The node to which any value leads as a path, if it has one of these words; None otherwise."""
        if not is_leading(self.program, path):
            return None
        node = node_at(self.root, path)
        return node if node.word in words else None

    def is_frame_row(self, birth, row):
        """Whether row is a row of frames, of the frame with this birth."""
        if not is_natural(birth) or birth >= self.frame_births or not is_tuple_of(row, 5):
            return False
        kind, path, names, worth, below = row
        if not isinstance(kind, str) or kind not in WORDS_OF_KINDS:
            return False
        node = self.node_led_to(path, (WORDS_OF_KINDS[kind],))
        if node is None or not self.are_names(names, names_waiting(kind, node)):
            return False
        if not (self.is_worth(worth) if kind in WITH_WORTH else worth is None):
            return False
        return below is None or (is_natural(below) and below < birth)

    def is_thing_row(self, birth, row):
        """Whether row is a row of things, of the thing with this birth."""
        if not is_natural(birth) or birth >= self.thing_births:
            return False
        if is_tuple_of(row, 2):
            return row[0] == "kept" and self.is_frame_or_none(row[1])
        if not is_tuple_of(row, 3):
            return False
        if row[0] == "pair":
            return self.is_worth(row[1]) and self.is_worth(row[2])
        node = self.node_led_to(row[1], MAKING_FUNCTIONS)
        return row[0] == "function" and node is not None and self.are_names(row[2], names_of_function(node))

    def are_rows(self):
        """Whether all rows are such."""
        for birth, row in self.frames.items():
            if not self.is_frame_row(birth, row):
                return False
        for birth, row in self.things.items():
            if not self.is_thing_row(birth, row):
                return False
        return True

    def is_control(self, control, top):
        """Whether control may stand with this top, the rows being right."""
        if is_tuple_of(control, 3) and control[0] == "at":
            node = self.node_led_to(control[1], EVALUATED)
            return node is not None and self.are_names(control[2], node.free)
        if not is_tuple_of(control, 2):
            return False
        if control[0] == "with":
            return top is not None and self.is_worth(control[1]) and self.may_take(top, control[1])
        if control[0] != "end":
            return False
        if control[1] == ("stuck",):
            return True
        return is_end(control[1]) and top is None and not self.frames and not self.things

    def may_take(self, top, worth):
        """Whether the top frame, if it is told, takes a step with this worth."""
        if top not in self.frames:
            return True
        kind, path, _, held, _ = self.frames[top]
        if kind in TAKING_NUMBERS:
            return worth[0] == "number"
        if kind == "work2":
            return is_workable(node_at(self.root, path).expression[1], held, worth)
        if kind == "open":
            return self.may_be(worth, ("pair",))
        if kind == "call2":
            return self.may_be(held, ("function", "kept"))
        return kind in TAKING_ANY

    def may_be(self, worth, sorts):
        """Whether a worth is a thing, and, if that is told, of one of these sorts."""
        if worth[0] != "thing":
            return False
        return worth[1] not in self.things or self.things[worth[1]][0] in sorts

    def are_reached(self, control, top):
        """Whether each row can be reached from control and top."""
        waiting = [("frame", top)] + reached_from_control(control)
        met = {}
        while waiting:
            word, birth = waiting.pop()
            if (word, birth) not in met:
                if word == "frame" and birth in self.frames:
                    met[(word, birth)] = True
                    waiting.extend(reached_from_frame(self.frames[birth]))
                if word == "thing" and birth in self.things:
                    met[(word, birth)] = True
                    waiting.extend(reached_from_thing(self.things[birth]))
        return len(met) == len(self.frames) + len(self.things)


def is_whole_picture(value):
    """Whether any value is a picture."""
    if not is_tuple_of(value, 4):
        return False
    program, moment, born, state = value
    if not is_program(program) or not is_natural(moment):
        return False
    if not is_tuple_of(born, 2) or not are_all(is_natural, born) or not is_tuple_of(state, 5):
        return False
    control, top, frames, things, shown = state
    if not isinstance(frames, dict) or not isinstance(things, dict) or not are_all(is_number, shown):
        return False
    sketch = Sketch(program, born, frames, things)
    if not sketch.is_frame_or_none(top) or not sketch.are_rows():
        return False
    return sketch.is_control(control, top) and sketch.are_reached(control, top)
