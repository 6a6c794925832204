"""Circuits (point 9)."""

from phasor.errors import InvalidGate, SizeMismatch
from phasor.gates import count_t, different_below, gate_fits, inverse_list, moved_gates


class Circuit:
    """A width and a list of gates that fit it."""

    def __init__(self, width, gates=()):
        if width < 1:
            raise InvalidGate("the width is below 1")
        for gate in gates:
            _check_fits(gate, width)
        self.width = width
        self._gates = list(gates)

    @property
    def gates(self):
        """A new list of the gates."""
        return list(self._gates)

    def add(self, kind, *qubits):
        """Appends one gate."""
        gate = (kind, qubits)
        _check_fits(gate, self.width)
        self._gates.append(gate)

    def then(self, other):
        """Returns a new circuit that executes this one and then the other one."""
        if self.width != other.width:
            raise SizeMismatch("the circuits differ in their width")
        return Circuit(self.width, self.gates + other.gates)

    def inverse(self):
        """Returns a new circuit with the inverses of the gates in reverse order."""
        return Circuit(self.width, inverse_list(self._gates))

    def mapped(self, places, *, width):
        """Returns a new circuit of the given width with each qubit q at places[q]."""
        if len(places) != self.width:
            raise SizeMismatch("there is not one place for each qubit")
        if not different_below(places, width):
            raise SizeMismatch("the places are not different places of the width")
        return Circuit(width, moved_gates(self._gates, places))

    def count_t(self):
        """Returns the number of T gates."""
        return count_t(self._gates)

    def __len__(self):
        return len(self._gates)


def _check_fits(gate, width):
    if not gate_fits(gate, width):
        raise InvalidGate("a gate does not fit the width")
