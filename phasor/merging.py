"""Merging rotations with the same axis (point 42)."""

from phasor.moving import MovedGates
from phasor.pauli import commutes
from phasor.rotations import from_rotations, to_rotations


def merge_rotations(width, rotations, tail):
    """Returns a rotation form in which no two rotations can be brought together."""
    moved = MovedGates(width)
    kept = []
    for given_axis, given_steps in rotations:
        axis, steps = moved.pass_before(given_axis, given_steps)
        at = _same_axis(kept, axis)
        if at is None:
            kept.append((axis, steps))
        else:
            # What was merged commutes with all behind it, so it separated no
            # other pair, and no further pair can be brought together.
            steps += kept.pop(at)[1]
            moved.take(axis, steps)
    return (kept, moved.before_tail(tail))


def _same_axis(rotations, axis):
    """Returns the index of the rotation with which one behind the list can be merged."""
    for at in reversed(range(len(rotations))):
        other = rotations[at][0]
        if other == axis:
            return at
        if not commutes(other, axis):
            return None
    return None


def merge_t(width, gates):
    """Returns the gates of the merged form of a list of gates."""
    rotations, tail = to_rotations(width, gates)
    merged, merged_tail = merge_rotations(width, rotations, tail)
    return from_rotations(merged, merged_tail)
