"""States of many qubits with few amplitudes that are not 0."""

from phasor.gates import steps_of
from phasor.ring import ring_add, ring_neg, ring_turn
from phasor.scaled import lowest

ZERO_NUMBER = (0, 0, 0, 0)


class SparseState:
    """The amplitudes that are not 0, ring numbers over a common power of root."""

    def __init__(self, index):
        self.roots = 0
        self._numbers = {index: (1, 0, 0, 0)}

    def apply(self, gate):
        """Applies a one-qubit gate or CX."""
        kind, qubits = gate
        bits = [1 << qubit for qubit in qubits]
        if kind == "H":
            self._mix(bits[0])
        elif kind == "CX":
            self._invert(bits[0], bits[1])
        elif kind == "X":
            self._invert(0, bits[0])
        elif kind == "Y":
            # Y is Z, then X, then two gates W.
            self._turn(bits[0], 4)
            self._invert(0, bits[0])
            self._turn(0, 2)
        else:
            self._turn(bits[0], steps_of(gate))

    def _mix(self, bit):
        """Applies H to the qubit with the bit."""
        self.roots += 1
        mixed = {}
        for index, number in self._numbers.items():
            low = index - (index & bit)
            signed = number if index == low else ring_neg(number)
            mixed[low] = ring_add(mixed.get(low, ZERO_NUMBER), number)
            mixed[low + bit] = ring_add(mixed.get(low + bit, ZERO_NUMBER), signed)
        self._numbers = {index: mixed[index] for index in mixed if mixed[index] != ZERO_NUMBER}

    def _invert(self, control, target):
        """Inverts the bit target where all bits of the mask control are set."""
        self._numbers = {
            index ^ target if index & control == control else index: number
            for index, number in self._numbers.items()
        }

    def _turn(self, mask, steps):
        """Multiplies by w^steps where all bits of the mask are set."""
        self._numbers = {
            index: ring_turn(number, steps) if index & mask == mask else number
            for index, number in self._numbers.items()
        }

    def amplitude(self, index):
        """Returns the amplitude at an index, a scaled number."""
        return lowest(self._numbers.get(index, ZERO_NUMBER), self.roots)
