"""Parities and linear maps (points 28 and 29)."""

from phasor.errors import NotInvertible, NotPhaseOnly, SizeMismatch
from phasor.pauli import bit_of, bits_of, weight


def parity(mask):
    """Returns 0 if an even number of bits is set, and 1 otherwise."""
    return weight(mask) % 2


def identity_rows(width):
    """Returns the linear map that does not change any index."""
    return [1 << qubit for qubit in range(width)]


def added_pairs(gate):
    """Returns the pairs (control, target) of the gates CX that CX or SWAP stands for."""
    kind, (a, b) = gate
    if kind == "CX":
        return [(a, b)]
    return [(a, b), (b, a), (a, b)]


def linear_of(width, gates):
    """Returns the linear map of a list of gates CX and SWAP."""
    rows = identity_rows(width)
    for gate in gates:
        if gate[0] != "CX" and gate[0] != "SWAP":
            raise NotPhaseOnly("there is a gate other than CX and SWAP")
        for control, target in added_pairs(gate):
            rows[target] ^= rows[control]
    return rows


def linear_target(rows, index):
    """Returns the index to which the linear map maps an index."""
    return sum([parity(index & row) << bit for bit, row in enumerate(rows)])


def linear_then(first, second):
    """Returns the linear map that applies the first and then the second one."""
    if len(first) != len(second):
        raise SizeMismatch("the linear maps differ in their number of rows")
    return [_combined(first, row) for row in second]


def _combined(rows, mask):
    """Returns the exclusive or of the rows whose bits are set in the mask."""
    result = 0
    for bit in bits_of(mask):
        result ^= rows[bit]
    return result


def linear_inverse(rows):
    """Returns the inverse linear map."""
    return linear_of(len(rows), _reducing_gates(rows))


def linear_gates(rows):
    """Returns a list of gates CX with the linear map."""
    # Every gate CX is its own inverse.
    return list(reversed(_reducing_gates(rows)))


def _reducing_gates(rows):
    """Returns gates CX that lead from the linear map to the identity.

    Each column takes at most one gate for its own row and one for each other
    row, so there are at most n^2 gates.
    """
    left = list(rows)
    pairs = []
    for at in range(len(left)):
        if bit_of(left[at], at) == 0:
            pairs.append((_later_row(left, at), at))
            left[at] ^= left[pairs[-1][0]]
        for target in range(len(left)):
            if target != at and bit_of(left[target], at) == 1:
                pairs.append((at, target))
                left[target] ^= left[at]
    return [("CX", pair) for pair in pairs]


def _later_row(rows, at):
    """Returns the index of the first row behind row at whose bit at is set."""
    for index in range(at + 1, len(rows)):
        if bit_of(rows[index], at) == 1:
            return index
    raise NotInvertible("the linear map has no inverse")
