"""Path sums and what each gate does to them (points 65 and 66)."""

import itertools
import unittest

from phasor.circuit import Circuit
from phasor.errors import InvalidGate, TooLarge
from phasor.macros import macro_gates
from phasor.pathsum import PathSum, path_sum_of
from tests.cases import W, GatesCase
from tests.plain import P_ZERO, all_gates, drawn_gates, is_lowest, sparse_columns, value

NO_H = ("X", "Y", "Z", "S", "SDG", "T", "TDG", "CX", "CZ", "SWAP", "W")


def count_h(gates):
    return sum(1 for kind, _ in gates if kind == "H")


def with_few_h(gates, limit):
    """The gates without the gates H behind the first ones."""
    kept = []
    for gate in gates:
        if gate[0] != "H" or count_h(kept) < limit:
            kept.append(gate)
    return kept


class PathSumCase(GatesCase):
    def assert_amplitudes(self, path_sum, width, gates):
        """All amplitudes of a path sum, held against the executed gates."""
        self.assertEqual((path_sum.width, path_sum.inner), (width, count_h(gates)))
        for start, column in enumerate(sparse_columns(width, gates)):
            for end in range(2 ** width):
                found = path_sum.amplitude(start, end)
                self.assertTrue(is_lowest(found))
                self.assertEqual(value(found), column.get(end, P_ZERO))

    def assert_sum(self, width, gates):
        circuit = Circuit(width, gates)
        self.assert_amplitudes(path_sum_of(circuit), width, gates)
        self.assertEqual(circuit.gates, gates)


class AmplitudeTest(PathSumCase):
    def test_no_gates_and_turns(self):
        for width in (1, 2, 3):
            self.assert_amplitudes(PathSum(width), width, [])
            for turns in range(10):
                self.assert_sum(width, [W] * turns)

    def test_attributes_are_set(self):
        self.assertEqual(vars(PathSum(3))["width"], 3)
        self.assertEqual(vars(PathSum(3))["inner"], 0)

    def test_each_gate_and_pairs_of_gates(self):
        for gate in all_gates(3):
            self.assert_sum(3, [gate])
        for one, other in itertools.product(all_gates(2), repeat=2):
            self.assert_sum(2, [one, other])

    def test_gates_one_after_the_other(self):
        """The path sum after each gate is that of the gates so far."""
        for seed in range(3):
            gates = with_few_h(drawn_gates(seed, 2, 30), 6)
            path_sum = PathSum(2)
            for done, gate in enumerate(gates, start=1):
                self.assertIsNone(path_sum.apply(gate))
                self.assert_amplitudes(path_sum, 2, gates[:done])

    def test_drawn_gates(self):
        for width in (1, 2, 3, 4):
            for seed in range(5):
                self.assert_sum(width, with_few_h(drawn_gates(seed, width, 12 * width), 7))
                self.assert_sum(width, with_few_h(
                    drawn_gates(seed, width, 12 * width, ("H", "T", "CX", "X", "Y", "CZ")), 6))

    def test_outputs_of_many_variables(self):
        """T gates on the exclusive or of up to five inputs and inner variables."""
        for seed in range(3):
            start = [("H", (qubit,)) for qubit in (0, 2, 4)]
            self.assert_sum(5, start + drawn_gates(seed, 5, 50, NO_H))
            gates = drawn_gates(seed, 4, 60, ("CX", "T", "TDG", "X", "S", "Y", "SWAP", "CZ"))
            self.assert_sum(4, gates[:30] + [("H", (1,)), ("H", (3,))] + gates[30:])

    def test_macros(self):
        for name, qubits in (("CS", (1, 0)), ("CCZ", (2, 0, 1)), ("CCX", (0, 1, 2)),
                             ("CSWAP", (1, 2, 0))):
            self.assert_sum(3, macro_gates(name, qubits))

    def test_twelve_and_thirteen_inner_variables(self):
        word = ["H", "T", "H", "S", "T"]
        gates = [(word[k % 5], (k % 2,)) for k in range(30)]
        for limit in (11, 12):
            self.assertEqual(count_h(with_few_h(gates, limit)), limit)
            self.assert_sum(2, with_few_h(gates, limit))
        path_sum = path_sum_of(Circuit(2, with_few_h(gates, 12)))
        path_sum.apply(("H", (0,)))
        self.assertEqual(path_sum.inner, 13)
        for start, end in itertools.product(range(4), repeat=2):
            self.assert_error(TooLarge, path_sum.amplitude, start, end)
        path_sum.apply(("T", (1,)))
        self.assertEqual((path_sum.width, path_sum.inner), (2, 13))

    def test_many_inner_variables(self):
        path_sum = path_sum_of(Circuit(8, drawn_gates(3, 8, 400)))
        self.assertEqual(path_sum.inner, count_h(drawn_gates(3, 8, 400)))
        self.assert_error(TooLarge, path_sum.amplitude, 0, 0)

    def test_gates_handed_in_are_kept_apart(self):
        circuit = Circuit(1, [("H", (0,))])
        path_sum = path_sum_of(circuit)
        circuit.add("X", 0)
        self.assert_amplitudes(path_sum, 1, [("H", (0,))])
        path_sum.diagonal().reduce()
        self.assert_amplitudes(path_sum, 1, [("H", (0,))])


class PathSumErrorsTest(PathSumCase):
    def test_widths_below_one(self):
        for width in (0, -1, -9):
            self.assert_error(InvalidGate, PathSum, width)

    def test_gates_that_do_not_fit(self):
        gates = [("H", (0,)), ("T", (0,)), ("CX", (0, 1))]
        path_sum = path_sum_of(Circuit(2, gates))
        for wrong in (("H", (2,)), ("T", (-1,)), ("CX", (0, 0)), ("CX", (0, 2)), ("CZ", (1,)),
                      ("H", ()), ("H", (0, 1)), ("W", (0,)), ("h", (0,)), ("CCX", (0, 1, 2)),
                      ("SWAP", (1, 2)), ("", ())):
            self.assert_error(InvalidGate, path_sum.apply, wrong)
            self.assert_amplitudes(path_sum, 2, gates)


if __name__ == "__main__":
    unittest.main()
