"""States, and the operators of circuits (points 14 and 15)."""

from phasor.errors import SizeMismatch
from phasor.gates import steps_of
from phasor.matrix import phase_between
from phasor.scaled import (
    ONE,
    ZERO,
    scaled_abs_square,
    scaled_add,
    scaled_over_root,
    scaled_sub,
    scaled_turn,
)


def basis_state(width, index):
    """Returns the basis state with the index."""
    state = [ZERO] * (1 << width)
    state[index] = ONE
    return state


def apply_gate(state, gate):
    """Returns the state after the gate, a new list."""
    kind, qubits = gate
    if kind == "H":
        return _mix(state, 1 << qubits[0])
    if kind == "X":
        return _invert(state, 0, 1 << qubits[0])
    if kind == "Y":
        return _apply_y(state, 1 << qubits[0])
    if kind == "CX":
        return _invert(state, 1 << qubits[0], 1 << qubits[1])
    if kind == "CZ":
        return _turn(state, (1 << qubits[0]) | (1 << qubits[1]), 4)
    if kind == "SWAP":
        return _exchange(state, 1 << qubits[0], 1 << qubits[1])
    if kind == "W":
        return _turn(state, 0, 1)
    return _turn(state, 1 << qubits[0], steps_of(gate))


def _mix(state, bit):
    """Applies H to the qubit with the bit."""
    result = list(state)
    for low in range(len(state)):
        high = low | bit
        if low != high and (state[low] != ZERO or state[high] != ZERO):
            result[low] = scaled_over_root(scaled_add(state[low], state[high]))
            result[high] = scaled_over_root(scaled_sub(state[low], state[high]))
    return result


def _invert(state, control, target):
    """Inverts the bit target where all bits of the mask control are set."""
    return [
        state[index ^ target] if index & control == control else state[index]
        for index in range(len(state))
    ]


def _turn(state, mask, steps):
    """Multiplies by w^steps where all bits of the mask are set."""
    return [
        scaled_turn(amplitude, steps) if index & mask == mask else amplitude
        for index, amplitude in enumerate(state)
    ]


def _apply_y(state, bit):
    """Y is i X Z."""
    return _turn(_invert(_turn(state, bit, 4), 0, bit), 0, 2)


def _exchange(state, first, second):
    """Exchanges two bits: both are inverted where exactly one is set."""
    both = first | second
    return [
        state[index ^ both] if (index & both) in (first, second) else state[index]
        for index in range(len(state))
    ]


def run(circuit, index):
    """Returns the state after the circuit is executed on the basis state."""
    state = basis_state(circuit.width, index)
    for gate in circuit.gates:
        state = apply_gate(state, gate)
    return state


def operator(circuit):
    """Returns the operator, a matrix."""
    size = 1 << circuit.width
    columns = [run(circuit, index) for index in range(size)]
    return tuple([tuple([column[row] for column in columns]) for row in range(size)])


def phase_from(first, second):
    """Returns the k with the first operator w^k times the second one, or None."""
    if first.width != second.width:
        raise SizeMismatch("the circuits differ in their width")
    return phase_between(operator(first), operator(second))


def probability(circuit, start, end):
    """Returns the probability of an end index for a start index."""
    return scaled_abs_square(run(circuit, start)[end])
