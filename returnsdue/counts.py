"""Counts of steps by their kinds."""

KINDS = ("call", "choose", "def", "enter", "hold", "keep", "let", "look", "open", "show", "work")


def no_counts():
    """The counts of no steps."""
    return {kind: 0 for kind in KINDS}


def counted(kinds):
    """The counts of these kinds."""
    counts = no_counts()
    for kind in kinds:
        counts[kind] += 1
    return counts
