"""The refusals that several modules share."""

from returnsdue.errors import BadMost
from returnsdue.wholes import is_natural

MOST_STEPS = 100000


def check_most(most):
    """Refuse what is no whole from 0 to 100000."""
    if not is_natural(most) or most > MOST_STEPS:
        raise BadMost("most is no whole from 0 to 100000")
