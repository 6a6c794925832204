"""Code words, and phase polynomials with the fewest odd terms (points 34 and 35)."""

import itertools
import unittest
from random import Random

from phasor.codes import code_words, least_t_of_polynomial, nearest_word, reduce_polynomial
from phasor.errors import TooLarge
from phasor.polynomial import PhasePolynomial, polynomial_of
from tests.cases import GatesCase
from tests.plain import drawn_gates, plain_parity
from tests.test_polynomial import (
    PHASE_KINDS, PolynomialCase, drawn_polynomial, effect_of_parts, state_of,
)


def members_of(word):
    return [bit + 1 for bit in range(word.bit_length()) if (word >> bit) & 1]


def word_of(masks):
    return sum(2 ** (mask - 1) for mask in masks)


def is_code_word(width, word):
    """The sum of point 34 at every index."""
    members = members_of(word)
    return all(
        sum(plain_parity(index & mask) for mask in members) % 8 == 0
        for index in range(2 ** width))


def degree_words(width):
    """The words on which a polynomial of degree at most width - 4 is 1."""
    monomials = [
        bits for size in range(width - 3) for bits in itertools.combinations(range(width), size)]
    words = set()
    for chosen in itertools.product((0, 1), repeat=len(monomials)):
        word = 0
        for mask in range(1, 2 ** width):
            terms = [all((mask >> b) & 1 for b in bits) for bits in monomials]
            if sum(t for t, c in zip(terms, chosen) if c) % 2:
                word |= 1 << (mask - 1)
        words.add(word)
    return sorted(words)


# The code words by the degree of polynomials, for each width.
DEGREE_WORDS = {width: degree_words(width) for width in range(1, 6)}


def distance(first, second):
    return bin(first ^ second).count("1")


class CodeWordsTest(GatesCase):
    def test_by_trying_all_words(self):
        for width in (1, 2, 3, 4):
            words = [w for w in range(2 ** (2 ** width - 1)) if is_code_word(width, w)]
            self.assertEqual(code_words(width), words)
        self.assertEqual(code_words(3), [0])
        self.assertEqual(code_words(4), [0, 32767])

    def test_width_five(self):
        words = code_words(5)
        self.assertEqual(len(words), 64)
        self.assertEqual(words, sorted(set(words)))
        self.assertTrue(all(is_code_word(5, word) for word in words))
        self.assertEqual(words, degree_words(5))

    def test_no_other_words_of_width_five(self):
        """Words close to code words, sums of code words, and words drawn without order."""
        words = code_words(5)
        random = Random(1)
        for word in words:
            for bit in range(31):
                self.assertFalse(is_code_word(5, word ^ (1 << bit)))
        for first, second in itertools.product(words, repeat=2):
            self.assertIn(first ^ second, words)
        for _ in range(2000):
            word = random.getrandbits(31)
            self.assertEqual(is_code_word(5, word), word in words)

    def test_new_lists(self):
        for width in range(1, 6):
            words = code_words(width)
            self.assertIs(type(words), list)
            words.append("more")
            self.assertEqual(code_words(width) + ["more"], words)

    def test_too_wide(self):
        for width in (6, 7, 8, 64):
            self.assert_error(TooLarge, code_words, width)


class NearestWordTest(GatesCase):
    def assert_nearest(self, width, word):
        found = nearest_word(width, word)
        wanted = min((distance(word, code), code) for code in DEGREE_WORDS[width])
        self.assertEqual(found, wanted[1])

    def test_all_words(self):
        for width in (1, 2, 3):
            for word in range(2 ** (2 ** width - 1)):
                self.assert_nearest(width, word)
                self.assertEqual(nearest_word(width, word), 0)

    def test_width_four(self):
        for word in range(0, 2 ** 15, 7):
            self.assert_nearest(4, word)
        self.assertEqual(nearest_word(4, 0b1111111), 0)
        self.assertEqual(nearest_word(4, 0b11111111), 32767)

    def test_width_five(self):
        random = Random(4)
        for _ in range(300):
            self.assert_nearest(5, random.getrandbits(31))
        for word in code_words(5):
            self.assertEqual(nearest_word(5, word), word)
            self.assert_nearest(5, word ^ 0b1010100)

    def test_two_at_the_same_distance(self):
        """Of two nearest code words the least one is taken."""
        words = code_words(5)
        random = Random(5)
        ties = 0
        for first, second in itertools.combinations(words[:20], 2):
            bits = members_of(first ^ second)
            middle = first ^ word_of(random.sample(bits, len(bits) // 2))
            distances = sorted(distance(middle, code) for code in words)
            if distances[0] == distances[1]:
                ties += 1
            self.assert_nearest(5, middle)
        self.assertGreater(ties, 20)

    def test_too_wide(self):
        for width in (6, 7, 8, 64):
            self.assert_error(TooLarge, nearest_word, width, 5)


class ReduceTest(PolynomialCase):
    def assert_reduced(self, polynomial):
        before = state_of(polynomial)
        width = polynomial.width
        reduced = reduce_polynomial(polynomial)
        self.assertIsNot(reduced, polynomial)
        self.assertEqual(state_of(polynomial), before)
        self.assertEqual(reduced.width, width)
        self.assert_parts(reduced)
        for index in range(2 ** width):
            self.assertEqual(effect_of_parts(reduced, index), effect_of_parts(polynomial, index))
        odd = word_of([mask for mask, steps in polynomial.terms if steps % 2])
        least = min(distance(odd, code) for code in DEGREE_WORDS[width])
        self.assertEqual(sum(1 for _, steps in reduced.terms if steps % 2), least)
        self.assertEqual(least_t_of_polynomial(polynomial), least)
        self.assertEqual(least_t_of_polynomial(reduced), least)
        # The new polynomial does not share anything with the given one.
        reduced.apply(("X", (0,)))
        reduced.apply(("T", (0,)))
        reduced.add_term(1, 3)
        self.assertEqual(state_of(polynomial), before)
        return least

    def test_identity(self):
        for width in range(1, 6):
            self.assertEqual(self.assert_reduced(PhasePolynomial(width)), 0)
            self.assertEqual(reduce_polynomial(PhasePolynomial(width)).terms, [])

    def test_drawn_polynomials(self):
        for width in range(1, 6):
            for seed in range(12):
                self.assert_reduced(drawn_polynomial(seed, width))

    def test_drawn_terms(self):
        random = Random(8)
        gains = 0
        for width in (4, 5):
            for seed in range(60):
                polynomial = drawn_polynomial(seed, width, 4)
                for mask in range(1, 2 ** width):
                    polynomial.add_term(mask, random.randrange(8))
                gains += polynomial.odd_count() - self.assert_reduced(polynomial)
        self.assertGreater(gains, 50)

    def test_fifteen_parities(self):
        for steps in (1, 3, 5, 7):
            polynomial = PhasePolynomial(4)
            for mask in range(1, 16):
                polynomial.add_term(mask, steps)
            self.assertEqual(self.assert_reduced(polynomial), 0)
            for mask in range(1, 16):
                polynomial.add_term(mask, 1)
                left = sum(1 for m in range(1, 16) if m <= mask)
                self.assertEqual(self.assert_reduced(polynomial), min(left, 15 - left))

    def test_code_words_of_five_qubits(self):
        for word in code_words(5):
            polynomial = PhasePolynomial(5)
            for mask in members_of(word):
                polynomial.add_term(mask, 1)
            self.assertEqual(self.assert_reduced(polynomial), 0)
            polynomial.add_term(9, 1)
            self.assertEqual(self.assert_reduced(polynomial), 1)

    def test_least_number_of_t_gates(self):
        """No list of gates without H with the same operator has fewer T gates."""
        for width in (1, 2, 3):
            for seed in range(6):
                gates = drawn_gates(seed, width, 10, PHASE_KINDS)
                least = least_t_of_polynomial(polynomial_of(width, gates))
                self.assertLessEqual(least, sum(1 for kind, _ in gates if kind in ("T", "TDG")))
        ccz = [(kind, tuple(qubits)) for kind, *qubits in (
            ("T", 0), ("T", 1), ("T", 2), ("CX", 0, 1), ("TDG", 1), ("CX", 0, 1), ("CX", 1, 2),
            ("TDG", 2), ("CX", 0, 2), ("T", 2), ("CX", 1, 2), ("TDG", 2), ("CX", 0, 2))]
        self.assertEqual(least_t_of_polynomial(polynomial_of(3, ccz)), 7)
        self.assertEqual(least_t_of_polynomial(polynomial_of(3, ccz * 2)), 0)

    def test_too_wide(self):
        for width in (6, 7, 8, 20):
            polynomial = drawn_polynomial(2, width, 12)
            before = state_of(polynomial)
            self.assert_error(TooLarge, reduce_polynomial, polynomial)
            self.assert_error(TooLarge, least_t_of_polynomial, polynomial)
            self.assertEqual(state_of(polynomial), before)
        wide = PhasePolynomial(64)
        wide.add_term(2 ** 63 + 1, 1)
        self.assert_error(TooLarge, reduce_polynomial, wide)
        self.assert_error(TooLarge, least_t_of_polynomial, wide)


if __name__ == "__main__":
    unittest.main()
