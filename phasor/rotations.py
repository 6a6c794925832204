"""Rotations of axes and plain rotation forms (points 39 to 43)."""

from phasor.gates import (
    collect_turns,
    gate_inverse,
    inverse_list,
    is_t,
    rotation_gates,
    steps_of,
)
from phasor.pauli import bits_of, letter_of
from phasor.tableau import Tableau

# For each letter the gates under which it becomes Z.
TO_Z = {"X": ("H",), "Y": ("SDG", "H"), "Z": ()}


def axis_gates(axis, steps):
    """Returns a list of gates with the operator of the rotation of an axis."""
    turns = steps % 8
    if turns == 0:
        return []
    target, *others = bits_of(axis[1] | axis[2])
    forth = []
    for qubit in [target] + others:
        forth.extend([(kind, (qubit,)) for kind in TO_Z[letter_of(axis, qubit)]])
    # Each gate CX takes the factor Z of its control from the axis.
    forth.extend([("CX", (qubit, target)) for qubit in others])
    return forth + rotation_gates(target, turns) + inverse_list(forth)


def signed_rotation(image, steps):
    """Returns (rotation, turns) for the rotation of an axis or of the negative of one.

    The rotation is a pair (axis, steps). The steps are in 1..7, before and after.
    """
    phase, x, z = image
    if phase == 0:
        return (((0, x, z), steps), 0)
    return (((0, x, z), 8 - steps), steps)


def to_rotations(width, gates):
    """Returns the plain rotation form of a list of gates."""
    rotations = []
    tail = []
    # The tableau of the inverse of all Clifford gates so far.
    back = Tableau(width)
    for gate in gates:
        if is_t(gate):
            rotation, turns = signed_rotation(back.image_of_z(gate[1][0]), steps_of(gate))
            rotations.append(rotation)
            tail.extend([("W", ())] * turns)
        else:
            tail.append(gate)
            for inverse in gate_inverse(gate):
                back.apply_before(inverse)
    return (rotations, collect_turns(tail))


def from_rotations(rotations, tail):
    """Returns the list of gates of a rotation form."""
    result = []
    for axis, steps in rotations:
        result.extend(axis_gates(axis, steps))
    return result + list(tail)
