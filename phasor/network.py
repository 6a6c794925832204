"""Networks of gates CX, and the gates of a phase polynomial (points 32 and 33)."""

from phasor.errors import NotPhaseOnly
from phasor.gates import rotation_gates
from phasor.linear import identity_rows, linear_gates, linear_inverse, linear_then
from phasor.pauli import bit_of, bits_of, weight


def network_masks(width, gates):
    """Returns the masks that appear in a network, by their first appearance."""
    carried = identity_rows(width)
    seen = {mask: True for mask in carried}
    for kind, qubits in gates:
        if kind != "CX":
            raise NotPhaseOnly("there is a gate other than CX")
        control, target = qubits
        carried[target] ^= carried[control]
        seen[carried[target]] = True
    return list(seen)


def parity_network(width, masks):
    """Returns a network in which all masks appear."""
    gates = []
    # Each mask is held as the set of the qubits whose carried masks make it up;
    # it appears when one qubit is left.
    parts = _not_single(masks)
    while len(parts) > 0:
        least = min(parts, key=weight)
        target, *controls = bits_of(least)
        for control in controls:
            gates.append(("CX", (control, target)))
            parts = _not_single([_part_after(part, control, target) for part in parts])
    return gates


def _not_single(parts):
    return [part for part in parts if weight(part) > 1]


def _part_after(part, control, target):
    """Returns the set of qubits that makes up the same mask after a gate CX."""
    # The old mask of the target is now that of the target with that of the control.
    return part ^ (bit_of(part, target) << control)


def polynomial_gates(polynomial):
    """Returns a list of gates with the operator of a phase polynomial."""
    width = polynomial.width
    left = {mask: steps for mask, steps in polynomial.terms}
    carried = identity_rows(width)
    gates = []
    for qubit in range(width):
        gates.extend(rotation_gates(qubit, left.pop(carried[qubit], 0)))
    network = parity_network(width, list(left))
    for gate in network:
        control, target = gate[1]
        carried[target] ^= carried[control]
        gates.append(gate)
        gates.extend(rotation_gates(target, left.pop(carried[target], 0)))
    gates.extend(linear_gates(linear_then(linear_inverse(carried), polynomial.rows)))
    gates.extend([("X", (qubit,)) for qubit in bits_of(polynomial.flips)])
    return gates + [("W", ())] * polynomial.turns
