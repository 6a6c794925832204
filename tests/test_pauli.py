"""Pauli operators and their images (points 16 and 17)."""

import itertools
import unittest
from random import Random

from phasor.errors import NotClifford
from phasor.pauli import commutes, pauli_gates, pauli_image, pauli_mul, pauli_text, weight
from tests.plain import (
    CLIFFORD_KINDS, all_gates, drawn_gates, pauli_columns, plain_columns, plain_matmul,
)


def all_paulis(width):
    masks = range(2 ** width)
    return list(itertools.product(range(4), masks, masks))


def drawn_paulis(seed, width, count):
    random = Random(seed)
    return [
        (random.randrange(4), random.randrange(2 ** width), random.randrange(2 ** width))
        for _ in range(count)
    ]


class PauliCase(unittest.TestCase):
    def assert_pauli(self, pauli):
        self.assertIs(type(pauli), tuple)
        self.assertEqual([type(part) for part in pauli], [int, int, int])
        self.assertIn(pauli[0], range(4))


class WeightTest(unittest.TestCase):
    def test_weights(self):
        random = Random(1)
        masks = list(range(300)) + [random.randrange(2 ** 200) for _ in range(50)]
        for mask in masks + [2 ** 64 - 1, 2 ** 64, 2 ** 1000, 2 ** 1000 - 1]:
            self.assertEqual(weight(mask), bin(mask).count("1"))


class ProductTest(PauliCase):
    def test_all_on_one_and_two_qubits(self):
        for width in (1, 2):
            paulis = all_paulis(width)
            columns = {pauli: pauli_columns(width, pauli) for pauli in paulis}
            step = 1 if width == 1 else 7
            for a in paulis[::step]:
                for b in paulis:
                    product = pauli_mul(a, b)
                    self.assert_pauli(product)
                    self.assertEqual(columns[product], plain_matmul(columns[a], columns[b]))

    def test_drawn_on_three_qubits(self):
        for a in drawn_paulis(1, 3, 12):
            for b in drawn_paulis(2, 3, 12):
                product = pauli_mul(a, b)
                self.assert_pauli(product)
                wanted = plain_matmul(pauli_columns(3, a), pauli_columns(3, b))
                self.assertEqual(pauli_columns(3, product), wanted)

    def test_known_products(self):
        x, z, y = (0, 1, 0), (0, 0, 1), (0, 1, 1)
        self.assertEqual(pauli_mul(x, z), (3, 1, 1))
        self.assertEqual(pauli_mul(z, x), (1, 1, 1))
        self.assertEqual(pauli_mul(x, y), (1, 0, 1))
        self.assertEqual(pauli_mul(y, x), (3, 0, 1))
        self.assertEqual(pauli_mul(y, y), (0, 0, 0))

    def test_many_qubits(self):
        high = 1 << 100
        self.assertEqual(pauli_mul((3, high, 0), (2, 0, high + 1)), (0, high, high + 1))

    def test_commutes(self):
        for a in all_paulis(2)[::3]:
            for b in all_paulis(2):
                wanted = plain_matmul(pauli_columns(2, a), pauli_columns(2, b)) == plain_matmul(
                    pauli_columns(2, b), pauli_columns(2, a))
                self.assertIs(commutes(a, b), wanted)


class TextTest(unittest.TestCase):
    def test_all_on_two_qubits(self):
        for phase, sign in enumerate(("+", "+i", "-", "-i")):
            for first, second in itertools.product("IXYZ", repeat=2):
                x = (first in "XY") + 2 * (second in "XY")
                z = (first in "ZY") + 2 * (second in "ZY")
                self.assertEqual(pauli_text(2, (phase, x, z)), sign + first + second)

    def test_widths(self):
        self.assertEqual(pauli_text(1, (0, 0, 0)), "+I")
        self.assertEqual(pauli_text(2, (0, 1, 3)), "+YZ")
        self.assertEqual(pauli_text(5, (3, 0b10010, 0b10001)), "-iZXIIY")
        self.assertEqual(pauli_text(70, (2, 1 << 69, 0)), "-" + "I" * 69 + "X")


class ImageTest(PauliCase):
    def assert_images(self, width, gates, paulis):
        for gate in gates:
            columns = plain_columns(width, [gate])
            for pauli in paulis:
                image = pauli_image(gate, pauli)
                self.assert_pauli(image)
                # U P = Q U for the image Q.
                self.assertEqual(
                    plain_matmul(columns, pauli_columns(width, pauli)),
                    plain_matmul(pauli_columns(width, image), columns), (gate, pauli))

    def test_every_gate_on_one_qubit(self):
        self.assert_images(1, all_gates(1, CLIFFORD_KINDS), all_paulis(1))

    def test_every_gate_on_two_qubits(self):
        self.assert_images(2, all_gates(2, CLIFFORD_KINDS), all_paulis(2))

    def test_every_gate_on_three_qubits(self):
        self.assert_images(3, all_gates(3, CLIFFORD_KINDS), drawn_paulis(5, 3, 16))

    def test_many_qubits(self):
        for gate in all_gates(2, CLIFFORD_KINDS):
            shifted = (gate[0], tuple(qubit + 90 for qubit in gate[1]))
            for phase, x, z in all_paulis(2)[::5]:
                wanted = pauli_image(gate, (phase, x, z))
                got = pauli_image(shifted, (phase, (x << 90) + 5, (z << 90) + 3))
                self.assertEqual(got, (wanted[0], (wanted[1] << 90) + 5, (wanted[2] << 90) + 3))

    def test_t_gates(self):
        for kind in ("T", "TDG"):
            for pauli in ((0, 0, 0), (0, 0, 1), (1, 1, 1), (0, 2, 0)):
                with self.assertRaises(NotClifford):
                    pauli_image((kind, (0,)), pauli)

    def test_example(self):
        self.assertEqual(pauli_image(("H", (0,)), (0, 1, 1)), (2, 1, 1))


class GatesTest(unittest.TestCase):
    def test_operators(self):
        for width in (1, 2):
            for pauli in all_paulis(width):
                self.assert_gates(width, pauli)
        for pauli in drawn_paulis(9, 4, 20):
            self.assert_gates(4, pauli)

    def assert_gates(self, width, pauli):
        gates = pauli_gates(pauli)
        self.assertIs(type(gates), list)
        self.assertLessEqual({kind for kind, _ in gates}, {"X", "Y", "Z", "W"})
        self.assertEqual(plain_columns(width, gates), pauli_columns(width, pauli))

    def test_new_lists(self):
        for pauli in ((0, 0, 0), (2, 1, 1)):
            pauli_gates(pauli).append("more")
            self.assertNotIn("more", pauli_gates(pauli))


if __name__ == "__main__":
    unittest.main()
