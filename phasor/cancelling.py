"""Gates that commute, and pairs of gates that cancel (points 47 and 48)."""

from phasor.gates import collect_turns, gate_inverse, steps_of


def gates_commute(first, second):
    """Returns True if two gates commute, otherwise False."""
    shared = [qubit for qubit in first[1] if qubit in second[1]]
    if len(shared) == 0:
        return True
    kinds = (first[0], second[0])
    if "SWAP" in kinds:
        # Only gates that treat both qubits alike commute with their exchange.
        return len(shared) == 2 and kinds in (("SWAP", "SWAP"), ("SWAP", "CZ"), ("CZ", "SWAP"))
    for qubit in shared:
        if _basis(first, qubit) != _basis(second, qubit):
            return False
    return True


def _basis(gate, qubit):
    """Returns the name of the basis of a qubit in which a gate other than SWAP is diagonal."""
    kind, qubits = gate
    if kind == "CX":
        return "Z" if qubit == qubits[0] else "X"
    if kind == "CZ" or steps_of(gate) != 0:
        return "Z"
    return kind


def cancel(width, gates):
    """Returns a list with the same operator in which no pair cancels."""
    kept = []
    for gate in gates:
        at = _partner(kept, gate)
        if at is None:
            kept.append(gate)
        else:
            # What is removed commutes with all behind it, so it separated no
            # other pair, and no further pair cancels.
            del kept[at]
    # No single gate is the inverse of W, so each W was kept.
    return collect_turns(kept)


def _partner(gates, gate):
    """Returns the index of the gate with which one behind the list cancels, or None."""
    for at in reversed(range(len(gates))):
        if gate_inverse(gates[at]) == [gate]:
            return at
        if not gates_commute(gates[at], gate):
            return None
    return None
