"""States, operators, phases between circuits, probabilities (points 14 and 15)."""

import unittest

from phasor.circuit import Circuit
from phasor.errors import SizeMismatch
from phasor.scaled import ONE, ZERO
from phasor.simulate import apply_gate, basis_state, operator, phase_from, probability, run
from tests.plain import (
    ALL_KINDS, P_ONE, P_ZERO, all_gates, drawn_gates, is_lowest, matrix_columns,
    p_conjugate, p_mul, plain_apply, plain_columns, plain_phase, plain_run, value,
)

W = ("W", ())


class StateCase(unittest.TestCase):
    def assert_state(self, got, wanted):
        self.assertIs(type(got), list)
        self.assertTrue(all(is_lowest(amplitude) for amplitude in got))
        self.assertEqual([value(amplitude) for amplitude in got], wanted)


class BasisTest(StateCase):
    def test_basis_states(self):
        for width in (1, 2, 3, 5):
            for index in range(2 ** width):
                wanted = [P_ONE if k == index else P_ZERO for k in range(2 ** width)]
                self.assert_state(basis_state(width, index), wanted)

    def test_new_lists(self):
        first = basis_state(1, 0)
        first[0] = ZERO
        first.append(ONE)
        self.assertEqual(basis_state(1, 0), [ONE, ZERO])


class ApplyTest(StateCase):
    def test_each_gate_on_each_basis_state(self):
        for width in (1, 2, 3, 4):
            for gate in all_gates(width):
                for index in range(2 ** width):
                    got = apply_gate(basis_state(width, index), gate)
                    self.assert_state(got, plain_run(width, [gate], index))

    def test_each_gate_on_drawn_states(self):
        for width in (1, 2, 3):
            for seed in range(4):
                gates = drawn_gates(seed, width, 25)
                state = run(Circuit(width, gates), 2 ** width - 1)
                before = list(state)
                for gate in all_gates(width):
                    got = apply_gate(state, gate)
                    self.assert_state(got, plain_run(width, gates + [gate], 2 ** width - 1))
                    self.assertEqual(state, before)
                    got[0] = "changed"
                    self.assertEqual(state, before)

    def test_states_that_are_not_normed(self):
        state = [((3, 0, 2, 0), 3), ((10 ** 30, 0, 0, 0), 0), ZERO, ((1, -1, 1, 4), 1)]
        shared = 2
        plain = []
        for (a, b, c, d), exponent in state:
            halves = 2 ** shared
            factor = value(((a, b, c, d), exponent))
            plain.append(tuple(part * halves for part in factor))
        for gate in all_gates(2):
            amplitudes, halvings = plain_apply((plain, shared), gate)
            wanted = [tuple(part / 2 ** halvings for part in x) for x in amplitudes]
            self.assert_state(apply_gate(state, gate), wanted)

    def test_known_effects(self):
        i = ((0, 0, 1, 0), 0)
        minus_i = ((0, 0, -1, 0), 0)
        half = ((1, 0, 0, 0), 1)
        minus_half = ((-1, 0, 0, 0), 1)
        self.assertEqual(apply_gate([ONE, ZERO], ("Y", (0,))), [ZERO, i])
        self.assertEqual(apply_gate([ZERO, ONE], ("Y", (0,))), [minus_i, ZERO])
        self.assertEqual(apply_gate([ONE, ZERO], ("H", (0,))), [half, half])
        self.assertEqual(apply_gate([ZERO, ONE], ("H", (0,))), [half, minus_half])
        self.assertEqual(apply_gate([ZERO, ONE], ("T", (0,))), [ZERO, ((0, 1, 0, 0), 0)])
        self.assertEqual(apply_gate([ONE, ZERO], W), [((0, 1, 0, 0), 0), ZERO])
        self.assertEqual(apply_gate(basis_state(2, 1), ("CX", (0, 1))), basis_state(2, 3))
        self.assertEqual(apply_gate(basis_state(2, 2), ("CX", (0, 1))), basis_state(2, 2))


class RunTest(StateCase):
    def test_drawn_circuits(self):
        for width in (1, 2, 3, 4):
            for seed in range(3):
                gates = drawn_gates(seed + 10 * width, width, 40)
                circuit = Circuit(width, gates)
                for index in range(2 ** width):
                    self.assert_state(run(circuit, index), plain_run(width, gates, index))
                self.assertEqual(circuit.gates, gates)

    def test_no_gates(self):
        for index in range(4):
            self.assertEqual(run(Circuit(2), index), basis_state(2, index))

    def test_many_gates(self):
        gates = drawn_gates(99, 2, 400, ("H", "T", "CX", "S"))
        self.assert_state(run(Circuit(2, gates), 1), plain_run(2, gates, 1))

    def test_eight_qubits(self):
        gates = drawn_gates(8, 8, 60)
        self.assert_state(run(Circuit(8, gates), 77), plain_run(8, gates, 77))


class OperatorTest(unittest.TestCase):
    def assert_operator(self, width, gates):
        matrix = operator(Circuit(width, gates))
        self.assertIs(type(matrix), tuple)
        self.assertTrue(all(type(row) is tuple and len(row) == 2 ** width for row in matrix))
        self.assertTrue(all(is_lowest(cell) for row in matrix for cell in row))
        self.assertEqual(matrix_columns(matrix), plain_columns(width, gates))

    def test_each_gate(self):
        for width in (1, 2, 3):
            for gate in all_gates(width):
                self.assert_operator(width, [gate])

    def test_drawn_circuits(self):
        for width in (1, 2, 3, 4):
            for seed in range(3):
                self.assert_operator(width, drawn_gates(seed + 60 * width, width, 30))

    def test_no_gates(self):
        self.assert_operator(1, [])
        self.assert_operator(3, [])

    def test_columns_and_rows(self):
        i, minus_i = ((0, 0, 1, 0), 0), ((0, 0, -1, 0), 0)
        self.assertEqual(operator(Circuit(1, [("Y", (0,))])), ((ZERO, minus_i), (i, ZERO)))


class PhaseTest(unittest.TestCase):
    def test_turns(self):
        for width in (1, 2, 3):
            gates = drawn_gates(width, width, 20)
            second = Circuit(width, gates)
            for k in range(8):
                first = Circuit(width, gates[:9] + [W] * k + gates[9:])
                self.assertEqual(phase_from(first, second), k)
                self.assertEqual(phase_from(second, first), (8 - k) % 8)

    def test_other_gates_with_the_same_operator(self):
        pairs = (
            ([("CZ", (0, 1))], [("CZ", (1, 0))], 0),
            ([("Y", (0,))], [("Z", (0,)), ("X", (0,))], 2),
            ([("Y", (0,))], [("X", (0,)), ("Z", (0,))], 6),
            ([("T", (1,))] * 8, [], 0),
            ([("S", (0,)), ("H", (0,))] * 3, [], 1),
            ([("SWAP", (0, 1))], [("CX", (0, 1)), ("CX", (1, 0)), ("CX", (0, 1))], 0),
        )
        for first, second, wanted in pairs:
            self.assertEqual(plain_phase(plain_columns(2, first), plain_columns(2, second)), wanted)
            self.assertEqual(phase_from(Circuit(2, first), Circuit(2, second)), wanted)

    def test_drawn_pairs(self):
        for seed in range(40):
            first = drawn_gates(seed, 1, 6, ("H", "S", "X", "Z", "W"))
            second = drawn_gates(seed + 500, 1, 5, ("H", "S", "X", "Z", "Y"))
            wanted = plain_phase(plain_columns(1, first), plain_columns(1, second))
            self.assertEqual(phase_from(Circuit(1, first), Circuit(1, second)), wanted)

    def test_none(self):
        for kind in ALL_KINDS:
            if kind != "W":
                first = Circuit(2, all_gates(2, (kind,))[:1])
                self.assertIsNone(phase_from(first, Circuit(2)))
                self.assertIsNone(phase_from(Circuit(2), first))
        # Each column alone is equal up to phase.
        self.assertIsNone(phase_from(Circuit(1, [("T", (0,))]), Circuit(1, [("TDG", (0,))])))
        self.assertIsNone(phase_from(Circuit(2, [("CX", (0, 1))]), Circuit(2, [("CX", (1, 0))])))

    def test_widths(self):
        for first, second in ((1, 2), (3, 2)):
            with self.assertRaises(SizeMismatch):
                phase_from(Circuit(first), Circuit(second))


class ProbabilityTest(unittest.TestCase):
    def test_drawn_circuits(self):
        for width in (1, 2, 3):
            gates = drawn_gates(width + 5, width, 30)
            circuit = Circuit(width, gates)
            columns = plain_columns(width, gates)
            for start in range(2 ** width):
                for end in range(2 ** width):
                    got = probability(circuit, start, end)
                    amplitude = columns[start][end]
                    self.assertTrue(is_lowest(got))
                    self.assertEqual(value(got), p_mul(amplitude, p_conjugate(amplitude)))

    def test_known(self):
        circuit = Circuit(2, [("H", (0,)), ("CX", (0, 1))])
        half = ((1, 0, 0, 0), 2)
        self.assertEqual([probability(circuit, 0, end) for end in range(4)], [half, ZERO, ZERO, half])
        self.assertEqual(probability(Circuit(2, [("X", (1,)), W]), 1, 3), ONE)
        self.assertEqual(probability(Circuit(2, [("CX", (0, 1))]), 1, 2), ZERO)
        self.assertEqual(probability(Circuit(2, [("CX", (0, 1))]), 1, 3), ONE)


if __name__ == "__main__":
    unittest.main()
