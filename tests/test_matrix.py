"""Matrices (point 5)."""

import unittest
from random import Random

from phasor.errors import SizeMismatch
from phasor.matrix import (
    is_unitary, mat_add, mat_adjoint, mat_identity, mat_kron, mat_mul, mat_scale,
    mat_trace, phase_between,
)
from phasor.scaled import ONE, ZERO
from tests.plain import (
    P_ONE, P_ZERO, is_lowest, p_add, p_conjugate, p_mul, p_turn, value,
)

HALF = ((1, 0, 0, 0), 1)
MINUS = ((-1, 0, 0, 0), 1)
H = ((HALF, HALF), (HALF, MINUS))
T = ((ONE, ZERO), (ZERO, ((0, 1, 0, 0), 0)))
W = ((0, 1, 0, 0), 0)
TWO = ((2, 0, 0, 0), 0)
SIZES = ((1, 1), (1, 3), (3, 1), (2, 2), (2, 3), (3, 2), (3, 3), (4, 2))


def drawn_matrix(seed, rows, columns):
    random = Random(seed)
    result = []
    for _ in range(rows):
        row = []
        for _ in range(columns):
            a, b, c, d = [random.randint(-2 ** 70, 2 ** 70) for _ in range(4)]
            exponent = random.choice((0, 0, 1, 2, 5))
            if exponent > 0 and (a + c) % 2 == 0 and (b + d) % 2 == 0:
                a += 1
            row.append(random.choice((ZERO, ONE, ((a, b, c, d), exponent))))
        result.append(tuple(row))
    return tuple(result)


def plain(m):
    return [[value(cell) for cell in row] for row in m]


class MatrixCase(unittest.TestCase):
    def assert_matrix(self, got, wanted):
        self.assertIs(type(got), tuple)
        for row in got:
            self.assertIs(type(row), tuple)
            self.assertTrue(all(is_lowest(cell) for cell in row))
        self.assertEqual(plain(got), wanted)


class ProductTest(MatrixCase):
    def test_identity(self):
        for size in (1, 2, 3, 7):
            wanted = [[P_ONE if i == j else P_ZERO for j in range(size)] for i in range(size)]
            self.assert_matrix(mat_identity(size), wanted)

    def test_products(self):
        for rows, inner in SIZES:
            for columns in (1, 2, 3):
                a = drawn_matrix(rows, rows, inner)
                b = drawn_matrix(columns + 50, inner, columns)
                wanted = []
                for i in range(rows):
                    row = []
                    for j in range(columns):
                        total = P_ZERO
                        for k in range(inner):
                            total = p_add(total, p_mul(value(a[i][k]), value(b[k][j])))
                        row.append(total)
                    wanted.append(row)
                self.assert_matrix(mat_mul(a, b), wanted)

    def test_products_that_do_not_fit(self):
        for (rows, columns) in SIZES:
            for (others, more) in SIZES:
                a, b = drawn_matrix(1, rows, columns), drawn_matrix(2, others, more)
                if columns != others:
                    with self.assertRaises(SizeMismatch):
                        mat_mul(a, b)
                else:
                    self.assertEqual(len(mat_mul(a, b)), rows)
                    self.assertEqual(len(mat_mul(a, b)[0]), more)

    def test_cells_that_cancel(self):
        self.assertEqual(mat_mul(H, H), mat_identity(2))

    def test_kron(self):
        for rows, columns in SIZES:
            for r, s in ((1, 1), (2, 3), (3, 1), (1, 2)):
                a = drawn_matrix(rows + 9, rows, columns)
                b = drawn_matrix(r + 70, r, s)
                wanted = [
                    [p_mul(value(a[i // r][j // s]), value(b[i % r][j % s]))
                     for j in range(columns * s)]
                    for i in range(rows * r)
                ]
                self.assert_matrix(mat_kron(a, b), wanted)


class CellTest(MatrixCase):
    def test_sums(self):
        for rows, columns in SIZES:
            a = drawn_matrix(5, rows, columns)
            b = drawn_matrix(6, rows, columns)
            wanted = [[p_add(x, y) for x, y in zip(p, q)] for p, q in zip(plain(a), plain(b))]
            self.assert_matrix(mat_add(a, b), wanted)

    def test_sums_that_do_not_fit(self):
        for first in SIZES:
            for second in SIZES:
                if first != second:
                    with self.assertRaises(SizeMismatch):
                        mat_add(drawn_matrix(1, *first), drawn_matrix(2, *second))

    def test_scale(self):
        for factor in (ZERO, ONE, W, ((1, 2, 0, 0), 3), TWO):
            for rows, columns in SIZES:
                m = drawn_matrix(8, rows, columns)
                wanted = [[p_mul(x, value(factor)) for x in row] for row in plain(m)]
                self.assert_matrix(mat_scale(m, factor), wanted)

    def test_adjoint(self):
        for rows, columns in SIZES:
            m = drawn_matrix(9, rows, columns)
            wanted = [[p_conjugate(value(m[i][j])) for i in range(rows)] for j in range(columns)]
            self.assert_matrix(mat_adjoint(m), wanted)

    def test_trace(self):
        for size in (1, 2, 3, 5):
            m = drawn_matrix(size, size, size)
            wanted = P_ZERO
            for k in range(size):
                wanted = p_add(wanted, value(m[k][k]))
            self.assertTrue(is_lowest(mat_trace(m)))
            self.assertEqual(value(mat_trace(m)), wanted)

    def test_trace_that_vanishes(self):
        self.assertEqual(mat_trace(H), ZERO)

    def test_not_square(self):
        for rows, columns in SIZES:
            if rows != columns:
                m = drawn_matrix(3, rows, columns)
                with self.assertRaises(SizeMismatch):
                    mat_trace(m)
                with self.assertRaises(SizeMismatch):
                    is_unitary(m)


class UnitaryTest(unittest.TestCase):
    def test_unitary(self):
        for m in (((ONE,),), ((W,),), H, T, mat_identity(5), ((ZERO, W), (ONE, ZERO))):
            self.assertIs(is_unitary(m), True)
        self.assertIs(is_unitary(mat_mul(H, mat_mul(T, H))), True)
        self.assertIs(is_unitary(mat_kron(H, mat_kron(T, H))), True)

    def test_not_unitary(self):
        unit = ((1, 1, 0, -1), 0)
        for m in (((TWO,),), ((ZERO,),), ((unit,),), ((ONE, ONE), (ZERO, ONE)),
                  ((HALF, HALF), (HALF, HALF)), ((ONE, ZERO), (ZERO, ZERO)),
                  ((HALF, ZERO), (ZERO, TWO)), mat_scale(H, HALF),
                  ((ZERO, ONE), (((-1, 0, 0, 0), 0), ONE))):
            self.assertIs(is_unitary(m), False)


class PhaseBetweenTest(unittest.TestCase):
    def test_turned(self):
        for rows, columns in SIZES:
            m = drawn_matrix(12, rows, columns)[:-1] + ((ONE,) * columns,)
            for k in range(8):
                turned = tuple(
                    tuple((p_turn(number, k), exponent) for number, exponent in row) for row in m)
                self.assertEqual(phase_between(turned, m), k)
                self.assertEqual(phase_between(m, turned), (8 - k) % 8)

    def test_zero_is_equal_with_the_least_phase(self):
        zero = ((ZERO, ZERO), (ZERO, ZERO))
        self.assertEqual(phase_between(zero, zero), 0)

    def test_none(self):
        one_cell = ((ONE, ZERO), (ZERO, ZERO))
        zero = ((ZERO, ZERO), (ZERO, ZERO))
        for a, b in ((H, T), (T, mat_identity(2)), (one_cell, zero), (zero, one_cell),
                     (mat_identity(2), ((ONE, ZERO), (ZERO, W))), (((TWO,),), ((ONE,),)),
                     (((ONE, W),), ((ONE, ONE),)), (((ONE,), (ONE,)), ((ONE,), (W,)))):
            self.assertIsNone(phase_between(a, b))

    def test_sizes(self):
        for first in SIZES:
            for second in SIZES:
                if first != second:
                    with self.assertRaises(SizeMismatch):
                        phase_between(drawn_matrix(1, *first), drawn_matrix(1, *second))


if __name__ == "__main__":
    unittest.main()
