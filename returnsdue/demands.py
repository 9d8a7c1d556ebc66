"""Demands: what becomes of worths, judged and put into a table that numbers them."""

from returnsdue.wholes import is_whole

PLAIN_ENDS = (("function",), ("pair",), ("kept",))


def is_good_end(value):
    """Whether any value is a good end of a run."""
    if not isinstance(value, tuple):
        return False
    if len(value) == 2:
        return value[0] == "number" and is_whole(value[1])
    return value in PLAIN_ENDS


def uses_within(demand):
    """The list of what stands in a demand in the places of uses; None if it is built otherwise."""
    if not isinstance(demand, tuple) or not 2 <= len(demand) <= 3:
        return None
    if demand[0] == "number" and len(demand) == 2:
        return [] if is_whole(demand[1]) else None
    if demand[0] == "end" and len(demand) == 2:
        return [] if is_good_end(demand[1]) else None
    if demand[0] == "enter" and len(demand) == 2:
        return [demand[1]]
    if demand[0] == "open" and len(demand) == 3:
        return [demand[1], demand[2]]
    if demand[0] == "call" and len(demand) == 3 and isinstance(demand[2], tuple):
        return [demand[1], *demand[2]]
    return None


def is_uses(value):
    """Whether any value is a tuple of demands."""
    waiting = [value]
    while waiting:
        uses = waiting.pop()
        if not isinstance(uses, tuple):
            return False
        for demand in uses:
            inner = uses_within(demand)
            if inner is None:
                return False
            waiting.extend(inner)
    return True


def is_returns(value):
    """Whether any value is a tuple of uses."""
    if not isinstance(value, tuple):
        return False
    for uses in value:
        if not is_uses(uses):
            return False
    return True
