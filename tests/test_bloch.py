"""Words, their operators and their Bloch matrices (points 21 to 23)."""

import functools
import itertools
import unittest
from random import Random

from phasor.bloch import bloch, bloch_exponent, word_operator
from phasor.ring import ring_conjugate
from tests.plain import (
    P_ROOT, is_lowest, matrix_columns, p_add, p_conjugate, p_mul, pauli_columns, plain_columns,
    plain_matmul, up_to_phase, value,
)

WORD_KINDS = ("H", "X", "Y", "Z", "S", "SDG", "T", "TDG", "W")

# X, Y and Z.
PAULIS = [pauli_columns(1, pauli) for pauli in ((0, 1, 0), (0, 1, 1), (0, 0, 1))]


def gates_of(word):
    return [(kind, () if kind == "W" else (0,)) for kind in word]


def word_columns(word):
    """The operator of a word, computed the plain way."""
    return plain_columns(1, gates_of(word))


def drawn_word(seed, length, kinds=WORD_KINDS):
    random = Random(seed)
    return [random.choice(kinds) for _ in range(length)]


def adjoint(columns):
    return [[p_conjugate(columns[j][i]) for j in range(len(columns))] for i in range(len(columns))]


def half_trace(columns):
    total = p_add(columns[0][0], columns[1][1])
    return tuple(part / 2 for part in total)


def plain_bloch(columns):
    """The Bloch matrix of an operator: its rows, as plain numbers."""
    back = adjoint(columns)
    return [
        [half_trace(plain_matmul(p, plain_matmul(columns, plain_matmul(q, back)))) for q in PAULIS]
        for p in PAULIS
    ]


@functools.lru_cache(maxsize=None)
def plain_exponent(word):
    """The Bloch exponent of a tuple of kinds: how many factors root make all cells ring numbers."""
    greatest = 0
    for row in plain_bloch(word_columns(word)):
        for cell in row:
            exponent = 0
            while any(part.denominator != 1 for part in cell):
                cell = p_mul(cell, P_ROOT)
                exponent += 1
            greatest = max(greatest, exponent)
    return greatest


class WordOperatorTest(unittest.TestCase):
    def assert_operator(self, word):
        given = list(word)
        matrix = word_operator(word)
        self.assertEqual(word, given)
        self.assertIs(type(matrix), tuple)
        self.assertEqual([len(row) for row in matrix], [2, 2])
        for row in matrix:
            self.assertIs(type(row), tuple)
            self.assertTrue(all(is_lowest(cell) for cell in row))
        self.assertEqual(matrix_columns(matrix), word_columns(word))

    def test_short_words(self):
        for length in range(3):
            for word in itertools.product(WORD_KINDS, repeat=length):
                self.assert_operator(list(word))

    def test_long_words(self):
        for seed in range(12):
            self.assert_operator(drawn_word(seed, 10 + 9 * seed))

    def test_turns_alone(self):
        for turns in range(20):
            self.assert_operator(["W"] * turns)

    def test_the_first_gate_is_executed_first(self):
        self.assertNotEqual(word_operator(["H", "T"]), word_operator(["T", "H"]))
        self.assert_operator(["H", "T"])


class BlochTest(unittest.TestCase):
    def assert_bloch(self, word):
        given = list(word)
        matrix = bloch(word)
        self.assertEqual(word, given)
        self.assertIs(type(matrix), tuple)
        self.assertEqual([len(row) for row in matrix], [3, 3, 3])
        for row in matrix:
            self.assertIs(type(row), tuple)
            for cell in row:
                self.assertTrue(is_lowest(cell))
                self.assertEqual(cell[0], ring_conjugate(cell[0]))
        wanted = plain_bloch(word_columns(word))
        self.assertEqual([[value(cell) for cell in row] for row in matrix], wanted)
        exponent = bloch_exponent(word)
        self.assertIs(type(exponent), int)
        self.assertEqual(exponent, max(cell[1] for row in matrix for cell in row))
        self.assertEqual(word, given)
        return matrix, exponent

    def test_short_words(self):
        for length in range(3):
            for word in itertools.product(WORD_KINDS, repeat=length):
                self.assert_bloch(list(word))

    def test_long_words(self):
        for seed in range(8):
            self.assert_bloch(drawn_word(seed + 50, 8 + 5 * seed))

    def test_no_t_gates(self):
        for seed in range(10):
            word = drawn_word(seed, seed, ("H", "X", "Y", "Z", "S", "SDG", "W"))
            self.assertEqual(self.assert_bloch(word)[1], 0)
        for turns in range(10):
            self.assertEqual(bloch_exponent(["W"] * turns), 0)
        self.assertEqual(bloch_exponent([]), 0)

    def test_known_matrices(self):
        one, zero, half = ((1, 0, 0, 0), 0), ((0, 0, 0, 0), 0), ((1, 0, 0, 0), 1)
        minus = ((-1, 0, 0, 0), 1)
        self.assertEqual(bloch([]), ((one, zero, zero), (zero, one, zero), (zero, zero, one)))
        self.assertEqual(
            bloch(["T"]), ((half, minus, zero), (half, half, zero), (zero, zero, one)))

    def test_equal_up_to_phase(self):
        words = [drawn_word(seed, 4, ("H", "S", "T", "X", "Y")) for seed in range(40)]
        words += [["X", "Z"], ["Y"], ["S", "S"], ["Z"], ["T", "X", "T"], ["X"]]
        keys = [up_to_phase(word_columns(word)) for word in words]
        matrices = [bloch(word) for word in words]
        for i in range(len(words)):
            self.assertEqual(bloch(words[i] + ["W"] * (i % 9)), matrices[i])
            for j in range(len(words)):
                self.assertEqual(matrices[i] == matrices[j], keys[i] == keys[j])

    def test_exponents(self):
        for count in range(12):
            self.assertEqual(bloch_exponent(["H", "T"] * count), count)
        self.assertEqual(bloch_exponent(["T", "T"]), 0)
        self.assertEqual(bloch_exponent(["T", "H", "T", "T", "H", "TDG"]), 2)
        self.assertEqual(bloch_exponent(["T", "Z", "T", "H", "T"]), 1)


class AxisRotationTest(unittest.TestCase):
    def test_rotations(self):
        """w on the states that P multiplies by -1, and 1 on those that it does not change."""
        words = (["H", "T", "H"], ["SDG", "H", "T", "H", "S"], ["T"])
        for pauli, word in zip(PAULIS, words):
            for j in range(2):
                for i in range(2):
                    both = (1, 1, 0, 0) if i == j else (0, 0, 0, 0)
                    cell = p_add(both, p_mul((1, -1, 0, 0), pauli[j][i]))
                    self.assertEqual(
                        value(word_operator(word)[i][j]), tuple(part / 2 for part in cell))


if __name__ == "__main__":
    unittest.main()
