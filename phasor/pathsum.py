"""Path sums: operators as sums over the values of variables (points 65 and 66)."""

from phasor.closedsum import ClosedSum, check_inner
from phasor.errors import InvalidGate
from phasor.folding import Values
from phasor.gates import gate_fits, steps_of
from phasor.linear import parity
from phasor.products import Products, sum_of_turns
from phasor.reducing import InnerSum


class PathSum:
    """The outputs, the turns, the roots and the terms of an operator.

    The outputs are numbers as those of Values: the inputs have the variables
    2 << q, and bit 0 is the constant.
    """

    def __init__(self, width):
        if width < 1:
            raise InvalidGate("the width is below 1")
        self.width = width
        self.inner = 0
        self._outputs = Values(width)
        # Each H adds one inner variable and one root, so their numbers are equal.
        self._products = Products()

    def apply(self, gate):
        """Applies a gate behind the operator."""
        if not gate_fits(gate, self.width):
            raise InvalidGate("the gate does not fit the width")
        kind, qubits = gate
        before = [self._outputs.numbers[qubit] for qubit in qubits]
        self._outputs.follow(gate)
        if kind == "H":
            self.inner += 1
            self._products.add_parity(self._outputs.numbers[qubits[0]], before[0], 4)
        elif kind == "Y":
            # Y is Z, then X, then two gates W.
            self._products.add_parity(0, before[0], 4)
            self._products.add_steps(0, 2)
        elif kind == "CZ":
            self._apply_cz(before[0], before[1])
        elif kind == "W":
            self._products.add_steps(0, 1)
        elif steps_of(gate) != 0:
            self._products.add_parity(0, before[0], steps_of(gate))

    def _apply_cz(self, a, b):
        # Twice the product is a + b minus their exclusive or.
        self._products.add_parity(0, a, 2)
        self._products.add_parity(0, b, 2)
        self._products.add_parity(0, a ^ b, 6)

    def _inner_variables(self):
        """Returns the ascending list of the inner variables."""
        return [2 << (self.width + at) for at in range(self.inner)]

    def amplitude(self, start, end):
        """Returns the amplitude of an end index for a start index, a scaled number."""
        check_inner(self.inner)
        variables = self._inner_variables()
        totals = self._products.totals(2 * start, variables)
        targets = self._targets(2 * start, variables)
        turns = [total for total, target in zip(totals, targets) if target == end]
        return sum_of_turns(turns, self.inner)

    def _targets(self, given, variables):
        """Returns the indexes that the outputs are for all values of the variables."""
        targets = [self._index_of(given + 1)]
        for variable in variables:
            change = self._index_of(variable)
            targets = targets + [target ^ change for target in targets]
        return targets

    def _index_of(self, ones):
        """Returns the index that the outputs are if these variables are 1 and others 0."""
        numbers = self._outputs.numbers
        return sum([parity(number & ones) << at for at, number in enumerate(numbers)])

    def diagonal(self):
        """Returns the diagonal, a new closed sum."""
        return self.diagonal_of_parts(self.inner // 2)

    def diagonal_of_parts(self, count):
        """Returns the diagonal of a list whose first part has so many gates H."""
        variables = self._inner_variables()
        result = InnerSum(variables, self._products.clone(), self.inner)
        numbers = self._outputs.numbers
        result.solve([numbers[qubit] ^ (2 << qubit) for qubit in range(self.width)])
        return ClosedSum(result, 2 << (self.width + count))


def path_sum_of(circuit):
    """Returns the path sum of a circuit."""
    result = PathSum(circuit.width)
    for gate in circuit.gates:
        result.apply(gate)
    return result
