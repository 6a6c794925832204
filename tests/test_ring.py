"""Ring numbers (point 3)."""

import itertools
import unittest
from random import Random

from phasor.errors import NotDivisible
from phasor.ring import (
    ring_abs_square, ring_add, ring_bullet, ring_conjugate, ring_divide, ring_mul,
    ring_neg, ring_norm, ring_over_root, ring_sub, ring_times_root, ring_turn,
)
from tests.plain import P_ROOT, p_add, p_conjugate, p_mul, p_neg, p_power, p_turn

SMALL = list(itertools.product((-2, -1, 0, 1, 3), repeat=4))


def drawn_numbers():
    random = Random(3)
    numbers = [(0, 0, 0, 0), (1, 0, 0, 0), (0, 0, 0, -1)]
    for bits in (2, 5, 63, 64, 65, 200, 1000):
        for _ in range(6):
            numbers.append(tuple(random.randint(-2 ** bits, 2 ** bits) for _ in range(4)))
    return numbers


class RingCase(unittest.TestCase):
    def assert_number(self, got, wanted):
        self.assertIs(type(got), tuple)
        self.assertTrue(all(type(part) is int for part in got))
        self.assertEqual(got, wanted)


class ArithmeticTest(RingCase):
    def test_of_one_number(self):
        for x in drawn_numbers() + SMALL:
            a, b, c, d = x
            self.assert_number(ring_neg(x), p_neg(x))
            self.assert_number(ring_conjugate(x), p_conjugate(x))
            self.assert_number(ring_conjugate(x), (a, -d, -c, -b))
            self.assert_number(ring_bullet(x), (a, -b, c, -d))
            self.assert_number(ring_times_root(x), p_mul(x, P_ROOT))

    def test_of_two_numbers(self):
        numbers = drawn_numbers()
        for x in numbers:
            for y in numbers:
                self.assert_number(ring_add(x, y), p_add(x, y))
                self.assert_number(ring_sub(x, y), p_add(x, p_neg(y)))
                self.assert_number(ring_mul(x, y), p_mul(x, y))

    def test_products_of_powers_of_w(self):
        powers = [p_turn((1, 0, 0, 0), k) for k in range(8)]
        for j in range(8):
            for k in range(8):
                self.assert_number(ring_mul(powers[j], powers[k]), powers[(j + k) % 8])

    def test_bullet_keeps_products(self):
        for x in SMALL[::9]:
            for y in SMALL[::11]:
                self.assertEqual(
                    ring_bullet(ring_mul(x, y)), p_mul(ring_bullet(x), ring_bullet(y)))

    def test_turns_for_any_steps(self):
        for x in drawn_numbers():
            for steps in list(range(-20, 21)) + [10 ** 30 + 3, -10 ** 30 - 5]:
                self.assert_number(ring_turn(x, steps), p_turn(x, steps))

    def test_examples(self):
        self.assert_number(ring_mul((1, 1, 0, 0), (1, 1, 0, 0)), (1, 2, 1, 0))
        self.assert_number(ring_turn((1, 0, 0, 0), -1), (0, 0, 0, -1))


class RootTest(RingCase):
    def test_over_root_of_products(self):
        for x in drawn_numbers() + SMALL:
            self.assert_number(ring_over_root(p_mul(x, P_ROOT)), x)

    def test_several_times(self):
        for count in range(1, 12):
            number = p_mul((3, 0, -1, 1), p_power(P_ROOT, count))
            for _ in range(count):
                number = ring_over_root(number)
            self.assert_number(number, (3, 0, -1, 1))
            with self.assertRaises(NotDivisible):
                ring_over_root(number)

    def test_every_small_number(self):
        for x in SMALL:
            a, b, c, d = x
            if (a + c) % 2 == 0 and (b + d) % 2 == 0:
                self.assertEqual(p_mul(ring_over_root(x), P_ROOT), x)
            else:
                with self.assertRaises(NotDivisible):
                    ring_over_root(x)

    def test_zero_is_divisible(self):
        self.assert_number(ring_over_root((0, 0, 0, 0)), (0, 0, 0, 0))

    def test_large_number_that_is_not_divisible(self):
        for x in ((2 ** 100 + 1, 0, 0, 0), (0, 2 ** 100, 0, -1), (1, 1, 2 ** 90, 2 ** 90)):
            with self.assertRaises(NotDivisible):
                ring_over_root(x)


class NormTest(RingCase):
    def test_abs_square(self):
        for x in drawn_numbers() + SMALL:
            pair = ring_abs_square(x)
            self.assertIs(type(pair), tuple)
            u, v = pair
            self.assertEqual(p_mul(x, p_conjugate(x)), (u, v, 0, -v))

    def test_norm(self):
        for x in drawn_numbers() + SMALL:
            square = p_mul(x, p_conjugate(x))
            norm = ring_norm(x)
            self.assertIs(type(norm), int)
            self.assertEqual(norm, square[0] ** 2 - 2 * square[1] ** 2)
            self.assertGreaterEqual(norm, 0)
            self.assertEqual(norm == 0, x == (0, 0, 0, 0))

    def test_known_norms(self):
        self.assertEqual(ring_norm(P_ROOT), 4)
        self.assertEqual(ring_norm((3, 0, 0, 0)), 81)
        self.assertEqual(ring_norm((1, 1, 0, -1)), 1)
        self.assertEqual(ring_norm((1, 1, 0, 0)), 2)


class DivideTest(RingCase):
    def test_products(self):
        numbers = drawn_numbers()
        for q in numbers:
            for y in numbers:
                if y != (0, 0, 0, 0):
                    self.assert_number(ring_divide(p_mul(q, y), y), q)

    def test_zero_as_a_divisor(self):
        for x in ((0, 0, 0, 0), (1, 0, 0, 0), (5, -3, 10 ** 30, 0)):
            with self.assertRaises(NotDivisible):
                ring_divide(x, (0, 0, 0, 0))

    def test_zero_divided(self):
        self.assert_number(ring_divide((0, 0, 0, 0), (4, -7, 0, 1)), (0, 0, 0, 0))

    def test_units_divide_everything(self):
        for unit in ((1, 1, 0, -1), (0, 0, 1, 0), (-1, 1, 0, -1), (0, -1, 0, 0)):
            for x in SMALL[::7]:
                self.assertEqual(p_mul(ring_divide(x, unit), unit), x)

    def test_no_quotient(self):
        cases = (
            ((1, 0, 0, 0), (2, 0, 0, 0)), ((2, 4, 6, 7), (2, 0, 0, 0)),
            ((7, 4, 6, 2), (2, 0, 0, 0)), ((2, 7, 4, 6), (2, 0, 0, 0)),
            ((2, 4, 7, 6), (2, 0, 0, 0)), ((1, 0, 0, 0), P_ROOT),
            ((1, 0, 0, 0), (1, 1, 0, 0)), ((3, 0, 0, 0), (-9, 0, 0, 0)),
            ((10 ** 40 + 1, 0, 0, 0), (0, 0, 10, 0)),
        )
        for x, y in cases:
            with self.subTest(x=x, y=y), self.assertRaises(NotDivisible):
                ring_divide(x, y)

    def test_quotients_by_small_integers(self):
        for x in SMALL:
            for n in (2, -3):
                y = (0, n, 0, 0)
                quotient = [part // n for part in p_turn(x, 7)]
                if p_mul(tuple(quotient), y) == x:
                    self.assert_number(ring_divide(x, y), tuple(quotient))
                else:
                    with self.assertRaises(NotDivisible):
                        ring_divide(x, y)


if __name__ == "__main__":
    unittest.main()
