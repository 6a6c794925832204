"""The examples of the interface."""

import unittest

from phasor.pauli import pauli_image, pauli_mul
from phasor.reader import read_circuit
from phasor.ring import ring_mul, ring_turn
from phasor.scaled import lowest, scaled_add


class ExamplesTest(unittest.TestCase):
    def test_ring(self):
        self.assertEqual(ring_mul((1, 1, 0, 0), (1, 1, 0, 0)), (1, 2, 1, 0))
        self.assertEqual(ring_turn((1, 0, 0, 0), -1), (0, 0, 0, -1))

    def test_scaled(self):
        self.assertEqual(lowest((2, 0, 0, 0), 2), ((1, 0, 0, 0), 0))
        self.assertEqual(lowest((1, 0, 0, 0), -1), ((0, 1, 0, -1), 0))
        self.assertEqual(
            scaled_add(((1, 0, 0, 0), 1), ((1, 0, 0, 0), 1)), ((0, 1, 0, -1), 0))

    def test_reader(self):
        text = "qubits 2\ndefine f 1\nT 0\nend\nrepeat 2\ncall f 1\nend\nCX 0 1\n"
        self.assertEqual(
            read_circuit(text).gates, [("T", (1,)), ("T", (1,)), ("CX", (0, 1))])

    def test_pauli(self):
        self.assertEqual(pauli_mul((0, 1, 0), (0, 0, 1)), (3, 1, 1))
        self.assertEqual(pauli_image(("H", (0,)), (0, 1, 1)), (2, 1, 1))


if __name__ == "__main__":
    unittest.main()
