"""The audit of two circuits (point 69)."""

from phasor.pathsum import path_sum_of


def audit(first, second):
    """Returns ("equal", k), ("unequal", None) or ("open", None) for two circuits."""
    both = path_sum_of(first.then(second.inverse()))
    count = len([kind for kind, _ in first.gates if kind == "H"])
    closed = both.diagonal_of_parts(count)
    closed.reduce()
    turns = closed.constant()
    if turns is not None:
        return ("equal", turns)
    if closed.broken or closed.inner == 0:
        return ("unequal", None)
    return ("open", None)
