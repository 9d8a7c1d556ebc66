"""The refusals that several modules share."""

from returnsdue.errors import BadMost
from returnsdue.wholes import is_natural

MOST_STEPS = 100000


def check_most(most):
    """Refuse what is no whole from 0 to 100000."""
    if not is_natural(most) or most > MOST_STEPS:
        raise BadMost("most is no whole from 0 to 100000")


def is_gift(value):
    """Whether value is a triple of a moment, a word and a birth."""
    if not isinstance(value, tuple) or len(value) != 3:
        return False
    moment, word, birth = value
    return is_natural(moment) and isinstance(word, str) and word in ("frame", "thing") and is_natural(birth)
