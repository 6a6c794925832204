"""Parities and linear maps (points 28 and 29)."""

import itertools
import unittest
from random import Random

from phasor.errors import NotInvertible, NotPhaseOnly, SizeMismatch
from phasor.linear import (
    linear_gates, linear_inverse, linear_of, linear_target, linear_then, parity,
)
from tests.cases import GatesCase
from tests.plain import ALL_KINDS, SIZES, all_gates, drawn_gates, plain_parity, sparse_step

LINEAR_KINDS = ("CX", "SWAP")


def target_by_gates(gates, index):
    """The index to which gates CX and SWAP map a basis state, by executing them."""
    state = {index: (1, 0, 0, 0)}
    for gate in gates:
        state = sparse_step(state, gate)
    (target,) = state
    return target


def target_by_rows(rows, index):
    return sum(plain_parity(index & row) << bit for bit, row in enumerate(rows))


def is_invertible(rows):
    targets = {target_by_rows(rows, index) for index in range(2 ** len(rows))}
    return len(targets) == 2 ** len(rows)


def all_maps(width):
    return [list(rows) for rows in itertools.product(range(2 ** width), repeat=width)]


def drawn_map(seed, width):
    """An invertible linear map: the rows of a list of gates, followed here."""
    rows = [1 << qubit for qubit in range(width)]
    for _, (control, target) in drawn_gates(seed, width, 6 * width, ("CX",)) if width > 1 else []:
        rows[target] ^= rows[control]
    return rows


class ParityTest(unittest.TestCase):
    def test_small_masks(self):
        for mask in range(1025):
            self.assertEqual(parity(mask), plain_parity(mask))
            self.assertIs(type(parity(mask)), int)

    def test_large_masks(self):
        random = Random(1)
        for bits in (63, 64, 65, 128, 1000, 100000):
            self.assertEqual(parity(2 ** bits), 1)
            self.assertEqual(parity(2 ** bits - 1), bits % 2)
            self.assertEqual(parity(2 ** bits + 1), 0)
            self.assertEqual(parity(2 ** bits + 2 ** (bits // 2) + 1), 1)
            for _ in range(5):
                mask = random.getrandbits(bits)
                self.assertEqual(parity(mask), plain_parity(mask))


class LinearOfTest(GatesCase):
    def assert_linear(self, width, gates):
        given = list(gates)
        rows = linear_of(width, gates)
        self.assertEqual(gates, given)
        self.assertIs(type(rows), list)
        self.assertEqual(len(rows), width)
        self.assertTrue(all(row in range(2 ** width) for row in rows))
        for index in range(2 ** width):
            target = target_by_gates(gates, index)
            self.assertEqual(target_by_rows(rows, index), target)
            self.assertEqual(linear_target(rows, index), target)
        rows.append("more")
        self.assertEqual(linear_of(width, gates) + ["more"], rows)

    def test_example(self):
        self.assertEqual(linear_of(3, [("CX", (0, 1)), ("CX", (1, 2))]), [1, 3, 7])

    def test_no_gates(self):
        for width in range(1, 9):
            self.assertEqual(linear_of(width, []), [2 ** qubit for qubit in range(width)])
            self.assert_linear(width, [])

    def test_each_gate(self):
        for width in (2, 3, 4):
            for gate in all_gates(width, LINEAR_KINDS):
                self.assert_linear(width, [gate])

    def test_drawn_gates(self):
        for width in range(2, 9):
            for seed in range(4):
                self.assert_linear(width, drawn_gates(seed, width, 5 * width, LINEAR_KINDS))

    def test_other_gates(self):
        for kind in ALL_KINDS:
            if kind not in LINEAR_KINDS:
                wrong = (kind, (1, 2)[:SIZES.get(kind, 1)])
                for gates in ([wrong], [("CX", (0, 1)), wrong], [wrong, ("SWAP", (0, 1))]):
                    given = list(gates)
                    self.assert_error(NotPhaseOnly, linear_of, 3, gates)
                    self.assertEqual(gates, given)


class LinearTargetTest(unittest.TestCase):
    def test_all_maps(self):
        for width in (1, 2):
            for rows in all_maps(width):
                given = list(rows)
                for index in range(2 ** width):
                    self.assertEqual(linear_target(rows, index), target_by_rows(rows, index))
                self.assertEqual(rows, given)

    def test_wide_maps(self):
        for width in range(3, 9):
            random = Random(width)
            rows = [random.randrange(2 ** width) for _ in range(width)]
            for index in range(2 ** width):
                self.assertEqual(linear_target(rows, index), target_by_rows(rows, index))


class LinearThenTest(GatesCase):
    def assert_then(self, first, second):
        given = list(first), list(second)
        both = linear_then(first, second)
        self.assertIs(type(both), list)
        self.assertEqual(len(both), len(first))
        for index in range(2 ** len(first)):
            middle = target_by_rows(first, index)
            self.assertEqual(target_by_rows(both, index), target_by_rows(second, middle))
        both.append("more")
        self.assertEqual((first, second), given)

    def test_all_maps(self):
        for width in (1, 2):
            for first, second in itertools.product(all_maps(width), repeat=2):
                self.assert_then(first, second)

    def test_wide_maps(self):
        for width in range(3, 9):
            random = Random(width)
            for _ in range(3):
                first = [random.randrange(2 ** width) for _ in range(width)]
                self.assert_then(first, drawn_map(width, width))
                self.assert_then(drawn_map(width + 9, width), first)

    def test_sizes(self):
        for first, second in (([1], [1, 2]), ([1, 2, 4], [1, 2]), ([0, 0], [0])):
            given = list(first), list(second)
            self.assert_error(SizeMismatch, linear_then, first, second)
            self.assertEqual((first, second), given)


class InvertingTest(GatesCase):
    def assert_inverted(self, rows):
        given = list(rows)
        width = len(rows)
        inverse = linear_inverse(rows)
        self.assertIs(type(inverse), list)
        self.assertEqual(len(inverse), width)
        gates = linear_gates(rows)
        self.assertEqual(rows, given)
        self.assert_gates(width, gates, ("CX",))
        self.assertLessEqual(len(gates), width * width)
        for index in range(2 ** width):
            self.assertEqual(target_by_rows(inverse, target_by_rows(rows, index)), index)
            self.assertEqual(target_by_gates(gates, index), target_by_rows(rows, index))
        inverse.append("more")
        gates.append("more")
        self.assertEqual(linear_inverse(rows) + ["more"], inverse)
        self.assertEqual(linear_gates(rows) + ["more"], gates)
        self.assertEqual(rows, given)

    def assert_not_invertible(self, rows):
        given = list(rows)
        self.assert_error(NotInvertible, linear_inverse, rows)
        self.assert_error(NotInvertible, linear_gates, rows)
        self.assertEqual(rows, given)

    def test_all_maps(self):
        counts = []
        for width in (1, 2, 3):
            maps = all_maps(width)
            good = [rows for rows in maps if is_invertible(rows)]
            counts.append(len(good))
            for rows in maps:
                if rows in good:
                    self.assert_inverted(rows)
                else:
                    self.assert_not_invertible(rows)
        self.assertEqual(counts, [1, 6, 168])

    def test_wide_maps(self):
        for width in range(4, 9):
            for seed in range(6):
                self.assert_inverted(drawn_map(seed, width))
            self.assert_inverted([1 << (width - 1 - qubit) for qubit in range(width)])
            self.assert_inverted([(2 << qubit) - 1 for qubit in range(width)])

    def test_wide_maps_without_inverse(self):
        for width in range(4, 9):
            for seed in range(4):
                rows = drawn_map(seed, width)
                rows[seed % width] = rows[(seed + 1) % width] ^ rows[(seed + 2) % width]
                self.assertFalse(is_invertible(rows))
                self.assert_not_invertible(rows)
            self.assert_not_invertible([0] * width)
            self.assert_not_invertible([1] * width)


if __name__ == "__main__":
    unittest.main()
