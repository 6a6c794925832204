"""Phase polynomials: operators of lists of gates without H (points 30 and 31)."""

from itertools import combinations

from phasor.errors import InvalidGate, NotPhaseOnly, SizeMismatch
from phasor.gates import gate_fits, steps_of
from phasor.linear import added_pairs, identity_rows, linear_target, parity
from phasor.pauli import bit_of, bits_of


class PhasePolynomial:
    """The rows and flips of the targets, and the turns and terms of the values."""

    def __init__(self, width):
        if width < 1:
            raise InvalidGate("the width is below 1")
        self.width = width
        self.turns = 0
        self.flips = 0
        self._rows = identity_rows(width)
        # The steps of each mask, without those that are 0.
        self._steps = {}

    @property
    def terms(self):
        """A new list of the terms, by ascending masks."""
        return [(mask, self._steps[mask]) for mask in sorted(self._steps)]

    @property
    def rows(self):
        """A new list of the rows."""
        return list(self._rows)

    def apply(self, gate):
        """Applies a gate behind the operator."""
        kind, qubits = gate
        if not gate_fits(gate, self.width):
            raise InvalidGate("the gate does not fit the width")
        if kind == "H":
            raise NotPhaseOnly("a phase polynomial has no H")
        if kind == "W":
            self._turn(1)
        elif kind == "X":
            self.flips ^= 1 << qubits[0]
        elif kind == "Y":
            self._apply_y(qubits[0])
        elif kind == "CZ":
            self._apply_cz(qubits[0], qubits[1])
        elif kind == "CX" or kind == "SWAP":
            self._move(gate)
        else:
            self._rotate(1 << qubits[0], steps_of(gate))

    def _turn(self, steps):
        self.turns = (self.turns + steps) % 8

    def _apply_y(self, qubit):
        self._rotate(1 << qubit, 4)
        self.flips ^= 1 << qubit
        self._turn(2)

    def _apply_cz(self, a, b):
        self._rotate(1 << a, 2)
        self._rotate(1 << b, 2)
        self._rotate((1 << a) | (1 << b), 6)

    def _move(self, gate):
        for control, target in added_pairs(gate):
            self._rows[target] ^= self._rows[control]
            self.flips ^= bit_of(self.flips, control) << target

    def _rotate(self, qubits, steps):
        """Multiplies by w^steps where the exclusive or of the qubits of a mask is 1."""
        mask = 0
        for qubit in bits_of(qubits):
            mask ^= self._rows[qubit]
        if parity(self.flips & qubits) == 1:
            # With p inverted, s times p is s minus s times the old p.
            self._turn(steps)
            steps = -steps
        self.add_term(mask, steps)

    def add_term(self, mask, steps):
        """Adds any number of steps to the steps of a mask."""
        total = (self._steps.get(mask, 0) + steps) % 8
        if total != 0:
            self._steps[mask] = total
        elif mask in self._steps:
            del self._steps[mask]

    def value(self, index):
        """Returns the value of an index."""
        terms = [steps * parity(index & mask) for mask, steps in self.terms]
        return (self.turns + sum(terms)) % 8

    def target(self, index):
        """Returns the target of an index."""
        return linear_target(self._rows, index) ^ self.flips

    def odd_count(self):
        """Returns the number of odd terms."""
        return len(self.odd_masks())

    def odd_masks(self):
        """Returns the ascending list of the masks of the odd terms."""
        return [mask for mask, steps in self.terms if steps % 2 == 1]

    def clone(self):
        """Returns a new phase polynomial that is equal to this one."""
        result = PhasePolynomial(self.width)
        result.turns = self.turns
        result.flips = self.flips
        result._rows = self.rows
        result._steps = {mask: steps for mask, steps in self.terms}
        return result


def polynomial_of(width, gates):
    """Returns the phase polynomial of a list of gates."""
    result = PhasePolynomial(width)
    for gate in gates:
        result.apply(gate)
    return result


def same_operator(first, second):
    """Returns True if two phase polynomials have the same operator, otherwise False."""
    if first.width != second.width:
        raise SizeMismatch("the phase polynomials differ in their width")
    if first.rows != second.rows or first.flips != second.flips:
        return False
    if first.turns != second.turns:
        return False
    return _coefficients(first.terms) == _coefficients(second.terms)


def _coefficients(terms):
    """Returns the steps of each product of bits of the index that are not 0.

    The exclusive or of bits is their sum, minus 2 times the sum of the
    products of two, plus 4 times that of three, modulo 8. Other than the
    terms, the coefficients of the products are unique.
    """
    totals = {}
    for mask, steps in terms:
        bits = bits_of(mask)
        _add_products(totals, bits, 1, steps)
        _add_products(totals, bits, 2, -2 * steps)
        _add_products(totals, bits, 3, 4 * steps)
    return {group: totals[group] for group in totals if totals[group] != 0}


def _add_products(totals, bits, size, steps):
    """Adds the steps to the total of each product of so many of the bits."""
    for group in combinations(bits, size):
        totals[group] = (totals.get(group, 0) + steps) % 8
