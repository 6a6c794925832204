"""Scaled numbers and their lowest form (point 4)."""

import itertools
import unittest
from random import Random

from phasor.scaled import (
    ONE, ZERO, lowest, phase_of, scaled_abs_square, scaled_add, scaled_conjugate,
    scaled_mul, scaled_neg, scaled_sub, scaled_turn,
)
from tests.plain import (
    P_ONE, P_ROOT, is_lowest, p_add, p_conjugate, p_mul, p_neg, p_power, p_turn, value,
)


def drawn_scaled():
    """Numbers in lowest form, written down without the program."""
    random = Random(4)
    numbers = [ZERO, ONE, ((1, 0, 0, 0), 1), ((0, 0, -1, 0), 2), ((3, 1, 0, 0), 5), ((2, 0, 0, 0), 0)]
    for bits in (1, 3, 64, 300):
        for exponent in (0, 0, 1, 2, 3, 8, 41):
            a, b, c, d = [random.randint(-2 ** bits, 2 ** bits) for _ in range(4)]
            if exponent > 0 and (a + c) % 2 == 0 and (b + d) % 2 == 0:
                d += 1
            numbers.append(((a, b, c, d), exponent))
    return numbers


class ScaledCase(unittest.TestCase):
    def assert_value(self, got, wanted):
        self.assertTrue(is_lowest(got), got)
        self.assertEqual(value(got), wanted)


class LowestTest(ScaledCase):
    def test_constants(self):
        self.assertEqual(ZERO, ((0, 0, 0, 0), 0))
        self.assertEqual(ONE, ((1, 0, 0, 0), 0))

    def test_drawn_numbers_and_exponents(self):
        for number in itertools.product((-4, -1, 0, 2, 3), repeat=4):
            for exponent in (-3, -2, -1, 0, 1, 2, 3, 6):
                self.assert_value(lowest(number, exponent), value((number, exponent)))

    def test_powers_of_root(self):
        for count in range(20):
            number = p_mul((1, 2, 0, 0), p_power(P_ROOT, count))
            for exponent in range(-5, 25):
                got = lowest(number, exponent)
                if exponent >= count:
                    self.assertEqual(got, ((1, 2, 0, 0), exponent - count))
                else:
                    wanted = p_mul((1, 2, 0, 0), p_power(P_ROOT, count - exponent))
                    self.assertEqual(got, (wanted, 0))
                self.assertTrue(is_lowest(got))

    def test_zero(self):
        for exponent in (-10 ** 6, -7, -1, 0, 1, 2, 9, 10 ** 30):
            self.assertEqual(lowest((0, 0, 0, 0), exponent), ((0, 0, 0, 0), 0))

    def test_large_exponents(self):
        number = tuple(part * 2 ** 500 for part in (5, 0, 3, 1))
        self.assertEqual(lowest(number, 1000), ((5, 0, 3, 1), 0))
        self.assertEqual(lowest(number, 1007), ((5, 0, 3, 1), 7))
        self.assertEqual(lowest((5, 0, 3, 1), -1000), (number, 0))
        self.assertEqual(lowest((1, 0, 0, 0), 10 ** 30), ((1, 0, 0, 0), 10 ** 30))

    def test_negative_numbers(self):
        self.assertEqual(lowest((-2, 0, 0, 0), 2), ((-1, 0, 0, 0), 0))
        self.assertEqual(lowest((-6, -4, 2, 8), 3), ((-3, -1, 1, 2), 0))
        self.assertEqual(lowest((-2, -4, 6, 9), 4), ((-2, -4, 6, 9), 4))
        self.assertEqual(lowest((-(2 ** 90), 0, 0, 0), 181), ((-1, 0, 0, 0), 1))

    def test_one_form_for_each_value(self):
        for number, exponent in drawn_scaled():
            for more in range(6):
                above = p_mul(number, p_power(P_ROOT, more))
                self.assertEqual(lowest(above, exponent + more), (number, exponent))

    def test_examples(self):
        self.assertEqual(lowest((2, 0, 0, 0), 2), ((1, 0, 0, 0), 0))
        self.assertEqual(lowest((1, 0, 0, 0), -1), ((0, 1, 0, -1), 0))


class ArithmeticTest(ScaledCase):
    def test_of_one_number(self):
        for x in drawn_scaled():
            plain = value(x)
            self.assert_value(scaled_neg(x), p_neg(plain))
            self.assert_value(scaled_conjugate(x), p_conjugate(plain))
            self.assert_value(scaled_abs_square(x), p_mul(plain, p_conjugate(plain)))

    def test_of_two_numbers(self):
        numbers = drawn_scaled()
        for x in numbers:
            for y in numbers:
                self.assert_value(scaled_add(x, y), p_add(value(x), value(y)))
                self.assert_value(scaled_sub(x, y), p_add(value(x), p_neg(value(y))))
                self.assert_value(scaled_mul(x, y), p_mul(value(x), value(y)))

    def test_differences_that_vanish(self):
        for x in drawn_scaled():
            self.assertEqual(scaled_sub(x, x), ZERO)
            self.assertEqual(scaled_add(x, scaled_neg(x)), ZERO)
            self.assertEqual(scaled_mul(x, ZERO), ZERO)
            self.assertEqual(scaled_add(x, ZERO), x)
            self.assertEqual(scaled_mul(x, ONE), x)

    def test_turns_for_any_steps(self):
        for x in drawn_scaled():
            for steps in list(range(-9, 18)) + [8 * 10 ** 20 + 5, -8 * 10 ** 20 - 1]:
                self.assert_value(scaled_turn(x, steps), p_turn(value(x), steps))

    def test_example(self):
        half = ((1, 0, 0, 0), 1)
        self.assertEqual(scaled_add(half, half), ((0, 1, 0, -1), 0))


class PhaseTest(unittest.TestCase):
    def test_powers_of_w(self):
        for k in range(8):
            self.assertEqual(phase_of((p_turn(P_ONE, k), 0)), k)

    def test_no_power_of_w(self):
        others = [ZERO, (P_ONE, 1), ((0, 1, 0, 0), 2), ((2, 0, 0, 0), 0), ((1, 1, 0, 0), 0),
                  (P_ROOT, 0), ((0, 0, 0, 3), 0), ((1, 1, 0, -1), 0), ((0, 0, -1, 0), 1)]
        for x in others:
            self.assertIsNone(phase_of(x))


if __name__ == "__main__":
    unittest.main()
