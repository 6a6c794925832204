"""Circuits (point 9), and what point 2 says of objects and lists."""

import unittest

from phasor.circuit import Circuit
from phasor.errors import InvalidGate, SizeMismatch
from tests.plain import (
    ALL_KINDS, all_gates, drawn_gates, inverse_gates, plain_columns,
)

BAD_GATES = (
    ("H", ()), ("H", (0, 1)), ("H", (2,)), ("H", (-1,)), ("CX", (0, 0)), ("CX", (0,)),
    ("CX", (0, 2)), ("CX", (-1, 0)), ("CX", (0, 1, 0)), ("W", (0,)), ("CCX", (0, 1)),
    ("", ()), ("h", (0,)), ("SWAP", (1, 1)), ("CZ", (10 ** 20, 0)), ("T", (2,)),
)


class MakingTest(unittest.TestCase):
    def test_width_and_gates(self):
        gates = all_gates(3)
        circuit = Circuit(3, gates)
        self.assertEqual(circuit.width, 3)
        self.assertIs(type(circuit.gates), list)
        self.assertEqual(circuit.gates, gates)
        self.assertEqual(len(circuit), len(gates))

    def test_no_gates(self):
        for circuit in (Circuit(1), Circuit(1, []), Circuit(1, ())):
            self.assertEqual((circuit.width, circuit.gates), (1, []))
            self.assertEqual((len(circuit), circuit.count_t()), (0, 0))

    def test_gates_in_a_tuple(self):
        circuit = Circuit(2, (("CX", (0, 1)), ("T", (1,))))
        self.assertEqual(circuit.gates, [("CX", (0, 1)), ("T", (1,))])

    def test_widths_below_one(self):
        for width in (0, -1, -10 ** 20):
            with self.assertRaises(InvalidGate):
                Circuit(width)
            with self.assertRaises(InvalidGate):
                Circuit(width, [("W", ())])

    def test_gates_that_do_not_fit(self):
        for gate in BAD_GATES:
            with self.subTest(gate=gate):
                with self.assertRaises(InvalidGate):
                    Circuit(2, [gate])
                with self.assertRaises(InvalidGate):
                    Circuit(2, [("H", (0,)), gate, ("X", (1,))])
                with self.assertRaises(InvalidGate):
                    Circuit(2, (("H", (0,)), gate))

    def test_large_width(self):
        circuit = Circuit(10 ** 30, [("H", (10 ** 30 - 1,))])
        self.assertEqual(circuit.width, 10 ** 30)


class CopyTest(unittest.TestCase):
    def test_list_handed_in(self):
        gates = [("H", (0,))]
        circuit = Circuit(1, gates)
        gates.append(("X", (0,)))
        gates[0] = ("Z", (0,))
        self.assertEqual(circuit.gates, [("H", (0,))])
        circuit.add("T", 0)
        self.assertEqual(gates, [("Z", (0,)), ("X", (0,))])

    def test_list_handed_out(self):
        circuit = Circuit(1, [("H", (0,))])
        handed = circuit.gates
        handed.append(("X", (0,)))
        handed[0] = ("Z", (0,))
        self.assertEqual(circuit.gates, [("H", (0,))])
        self.assertEqual(len(circuit), 1)
        circuit.add("T", 0)
        self.assertEqual(handed, [("Z", (0,)), ("X", (0,))])

    def test_circuits_do_not_share(self):
        first, second = Circuit(1), Circuit(1)
        first.add("H", 0)
        self.assertEqual(second.gates, [])
        third = first.then(second)
        third.add("X", 0)
        self.assertEqual((first.gates, second.gates), ([("H", (0,))], []))
        fourth = first.mapped([0], width=1)
        fourth.add("Z", 0)
        fifth = first.inverse()
        fifth.add("Y", 0)
        self.assertEqual(first.gates, [("H", (0,))])
        first.add("S", 0)
        self.assertEqual(third.gates, [("H", (0,)), ("X", (0,))])
        self.assertEqual(fourth.gates, [("H", (0,)), ("Z", (0,))])
        self.assertEqual(fifth.gates, [("H", (0,)), ("Y", (0,))])


class AddTest(unittest.TestCase):
    def test_every_gate(self):
        circuit = Circuit(3)
        gates = all_gates(3)
        for kind, qubits in gates:
            self.assertIsNone(circuit.add(kind, *qubits))
        self.assertEqual(circuit.gates, gates)
        self.assertTrue(all(type(gate) is tuple and type(gate[1]) is tuple
                            for gate in circuit.gates))

    def test_gates_that_do_not_fit(self):
        circuit = Circuit(2, [("H", (0,))])
        for kind, qubits in BAD_GATES:
            with self.subTest(kind=kind, qubits=qubits):
                with self.assertRaises(InvalidGate):
                    circuit.add(kind, *qubits)
                self.assertEqual(circuit.gates, [("H", (0,))])
                self.assertEqual(len(circuit), 1)


class ThenTest(unittest.TestCase):
    def test_then(self):
        first, second = drawn_gates(1, 3, 10), drawn_gates(2, 3, 7)
        both = Circuit(3, first).then(Circuit(3, second))
        self.assertIs(type(both), Circuit)
        self.assertEqual((both.width, both.gates), (3, first + second))

    def test_with_itself_and_with_nothing(self):
        circuit = Circuit(2, [("CX", (0, 1))])
        self.assertEqual(circuit.then(circuit).gates, [("CX", (0, 1))] * 2)
        self.assertEqual(circuit.then(Circuit(2)).gates, [("CX", (0, 1))])
        self.assertEqual(Circuit(2).then(circuit).gates, [("CX", (0, 1))])
        self.assertEqual(circuit.gates, [("CX", (0, 1))])

    def test_widths(self):
        first, second = Circuit(2, [("H", (0,))]), Circuit(3, [("X", (0,))])
        for one, other in ((first, second), (second, first)):
            with self.assertRaises(SizeMismatch):
                one.then(other)
        self.assertEqual((first.gates, second.gates), ([("H", (0,))], [("X", (0,))]))


class InverseTest(unittest.TestCase):
    def test_gates(self):
        for seed in range(8):
            gates = drawn_gates(seed, 3, 4 * seed)
            circuit = Circuit(3, gates)
            inverse = circuit.inverse()
            self.assertIs(type(inverse), Circuit)
            self.assertEqual((inverse.width, inverse.gates), (3, inverse_gates(gates)))
            self.assertEqual(circuit.gates, gates)

    def test_every_kind(self):
        for gate in all_gates(2):
            inverse = Circuit(2, [gate, ("W", ())]).inverse()
            self.assertEqual(inverse.gates, [("W", ())] * 7 + inverse_gates([gate]))

    def test_operator(self):
        gates = drawn_gates(5, 2, 20)
        both = Circuit(2, gates).then(Circuit(2, gates).inverse())
        self.assertEqual(plain_columns(2, both.gates), plain_columns(2, []))


class MappedTest(unittest.TestCase):
    def test_every_gate(self):
        gates = all_gates(3)
        places = [4, 0, 2]
        mapped = Circuit(3, gates).mapped(places, width=6)
        self.assertIs(type(mapped), Circuit)
        self.assertEqual(mapped.width, 6)
        self.assertEqual(
            mapped.gates,
            [(kind, tuple(places[qubit] for qubit in qubits)) for kind, qubits in gates])
        self.assertEqual(places, [4, 0, 2])

    def test_places_in_a_tuple_and_the_same_width(self):
        mapped = Circuit(2, [("CX", (0, 1))]).mapped((1, 0), width=2)
        self.assertEqual((mapped.width, mapped.gates), (2, [("CX", (1, 0))]))

    def test_smaller_width_is_not_possible(self):
        with self.assertRaises(SizeMismatch):
            Circuit(3, [("H", (0,))]).mapped([0, 1, 2], width=2)

    def test_wrong_places(self):
        circuit = Circuit(2, [("CX", (0, 1))])
        for places in ([], [0], [0, 1, 2], [0, 0], [0, 3], [-1, 0], [3, 1], [10 ** 20, 0]):
            with self.subTest(places=places):
                with self.assertRaises(SizeMismatch):
                    circuit.mapped(places, width=3)
                self.assertEqual((circuit.width, circuit.gates), (2, [("CX", (0, 1))]))

    def test_width_below_one(self):
        for width in (0, -3):
            with self.assertRaises(SizeMismatch):
                Circuit(1).mapped([0], width=width)


class CountTest(unittest.TestCase):
    def test_counts(self):
        for seed in range(6):
            gates = drawn_gates(seed + 40, 4, 30)
            circuit = Circuit(4, gates)
            kinds = [kind for kind, _ in gates]
            self.assertEqual(circuit.count_t(), kinds.count("T") + kinds.count("TDG"))
            self.assertEqual(len(circuit), 30)

    def test_each_kind(self):
        for kind in ALL_KINDS:
            gate = all_gates(2, (kind,))[0]
            self.assertEqual(Circuit(2, [gate]).count_t(), 1 if kind in ("T", "TDG") else 0)


if __name__ == "__main__":
    unittest.main()
