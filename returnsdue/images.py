"""Images: pictures as texts."""

from returnsdue.errors import BadImage, BadPicture, BadRow
from returnsdue.packing import packed, unpacked
from returnsdue.sketching import WORDS_OF_KINDS, is_whole_picture
from returnsdue.trees import are_all, is_tuple_of
from returnsdue.wholes import is_natural


def image(picture):
    """The text of a picture."""
    if not is_whole_picture(picture):
        raise BadPicture("this is no picture")
    return text_of(picture)


def text_of(picture):
    """As image, of what is known to be a picture."""
    program, moment, born, (control, top, frames, things, shown) = picture
    kinds = list(WORDS_OF_KINDS)
    ones = []
    for birth in sorted(frames):
        row = frames[birth]
        ones.append((birth, kinds.index(row[0]), *row[1:]))
    others = [(birth, *things[birth]) for birth in sorted(things)]
    return packed((program, moment, born, control, top, tuple(ones), tuple(others), shown))


def is_one(value):
    """Whether value may be the row of a frame, with its birth and the place of its kind ahead."""
    if not is_tuple_of(value, 6) or not is_natural(value[0]) or not is_natural(value[1]):
        return False
    return value[1] < len(WORDS_OF_KINDS)


def is_other(value):
    """Whether value may be the row of a thing, with its birth ahead."""
    return isinstance(value, tuple) and len(value) > 0 and is_natural(value[0])


def read_image(text):
    """The picture that has this text."""
    try:
        value = unpacked(text)
    except BadRow:
        raise BadImage("this is no packed text")
    if not is_tuple_of(value, 8) or not are_all(is_one, value[5]) or not are_all(is_other, value[6]):
        raise BadImage("this is not built as the text of a picture")
    program, moment, born, control, top, ones, others, shown = value
    kinds = list(WORDS_OF_KINDS)
    frames = {row[0]: (kinds[row[1]], *row[2:]) for row in ones}
    things = {row[0]: row[1:] for row in others}
    picture = (program, moment, born, (control, top, frames, things, shown))
    if not is_whole_picture(picture) or text_of(picture) != text:
        raise BadImage("this is the text of no picture")
    return picture
