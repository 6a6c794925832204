"""Phase polynomials (points 30 and 31)."""

import unittest
from random import Random

from phasor.errors import InvalidGate, NotPhaseOnly, SizeMismatch
from phasor.polynomial import PhasePolynomial, polynomial_of, same_operator
from tests.cases import GatesCase
from tests.plain import (
    ALL_KINDS, all_gates, drawn_gates, plain_parity, sparse_columns, sparse_step, sparse_turn,
)

PHASE_KINDS = tuple(kind for kind in ALL_KINDS if kind != "H")


def effect_by_gates(gates, index):
    """The (v, t) with the basis state mapped to w^v times that of t, by executing the gates."""
    state = {index: (1, 0, 0, 0)}
    for gate in gates:
        state = sparse_step(state, gate)
    ((target, x),) = state.items()
    (value,) = [k for k in range(8) if sparse_turn((1, 0, 0, 0), k) == x]
    return value, target


def state_of(polynomial):
    return (polynomial.width, polynomial.turns, polynomial.flips, polynomial.terms,
            polynomial.rows)


def effect_of_parts(polynomial, index):
    """Value and target of an index, from turns, terms, rows and flips as point 30 says."""
    value = polynomial.turns
    for mask, steps in polynomial.terms:
        value += steps * plain_parity(index & mask)
    target = 0
    for bit, row in enumerate(polynomial.rows):
        flip = (polynomial.flips >> bit) & 1
        target |= (plain_parity(index & row) ^ flip) << bit
    return value % 8, target


def drawn_polynomial(seed, width, count=None):
    gates = drawn_gates(seed, width, 8 * width if count is None else count, PHASE_KINDS)
    return polynomial_of(width, gates)


class PolynomialCase(GatesCase):
    def assert_parts(self, polynomial):
        """The kinds and the ranges of point 30."""
        width = polynomial.width
        self.assertIs(type(polynomial), PhasePolynomial)
        self.assertIn(polynomial.turns, range(8))
        self.assertIn(polynomial.flips, range(2 ** width))
        terms, rows = polynomial.terms, polynomial.rows
        self.assertIs(type(terms), list)
        self.assertIs(type(rows), list)
        for term in terms:
            self.assertIs(type(term), tuple)
            mask, steps = term
            self.assertIn(mask, range(1, 2 ** width))
            self.assertIn(steps, range(1, 8))
        masks = [mask for mask, _ in terms]
        self.assertEqual(masks, sorted(set(masks)))
        self.assertEqual(len(rows), width)
        self.assertTrue(all(row in range(2 ** width) for row in rows))
        self.assertEqual(polynomial.odd_count(), sum(1 for _, steps in terms if steps % 2))

    def assert_polynomial(self, width, gates, polynomial):
        """The polynomial describes the operator of the gates."""
        self.assertEqual(polynomial.width, width)
        self.assert_parts(polynomial)
        for index in range(2 ** width):
            value, target = effect_by_gates(gates, index)
            self.assertEqual((polynomial.value(index), polynomial.target(index)), (value, target))
            self.assertEqual(effect_of_parts(polynomial, index), (value, target))


class MakingTest(PolynomialCase):
    def test_identity(self):
        for width in (1, 2, 5, 8):
            polynomial = PhasePolynomial(width)
            rows = [2 ** qubit for qubit in range(width)]
            self.assertEqual(state_of(polynomial), (width, 0, 0, [], rows))
            self.assertEqual(polynomial.odd_count(), 0)
            self.assert_polynomial(width, [], polynomial)
            self.assert_polynomial(width, [], polynomial_of(width, []))

    def test_widths_below_one(self):
        for width in (0, -1, -10 ** 20):
            self.assert_error(InvalidGate, PhasePolynomial, width)
            self.assert_error(InvalidGate, polynomial_of, width, [])

    def test_polynomials_do_not_share(self):
        first, second = PhasePolynomial(2), PhasePolynomial(2)
        before = state_of(second)
        for gate in drawn_gates(2, 2, 20, PHASE_KINDS):
            first.apply(gate)
        self.assertEqual(state_of(second), before)

    def test_new_lists(self):
        polynomial = drawn_polynomial(1, 3)
        before = state_of(polynomial)
        polynomial.terms.append((1, 1))
        polynomial.terms.clear()
        polynomial.rows[0] = 0
        polynomial.rows.reverse()
        self.assertEqual(state_of(polynomial), before)
        terms, rows = polynomial.terms, polynomial.rows
        kept = list(terms), list(rows)
        for gate in drawn_gates(2, 3, 20, PHASE_KINDS):
            polynomial.apply(gate)
        self.assertEqual((terms, rows), kept)


class ApplyTest(PolynomialCase):
    def test_each_gate(self):
        for width in (1, 2, 3):
            for gate in all_gates(width, PHASE_KINDS):
                polynomial = PhasePolynomial(width)
                self.assertIsNone(polynomial.apply(gate))
                self.assert_polynomial(width, [gate], polynomial)

    def test_each_gate_behind_others(self):
        """Also on qubits whose bit in flips is set, and on sums of qubits."""
        before = [("X", (0,)), ("CX", (1, 2)), ("X", (2,)), ("CX", (0, 1)), ("T", (1,))]
        for start in range(len(before) + 1):
            for gate in all_gates(3, PHASE_KINDS):
                gates = before[start:] + [gate]
                self.assert_polynomial(3, gates, polynomial_of(3, gates))

    def test_drawn_gates(self):
        for width in range(1, 9):
            for seed in range(6 if width < 6 else 2):
                gates = drawn_gates(seed, width, 12 * width, PHASE_KINDS)
                polynomial = PhasePolynomial(width)
                for gate in gates:
                    polynomial.apply(gate)
                self.assert_polynomial(width, gates, polynomial)
                given = list(gates)
                self.assertEqual(state_of(polynomial_of(width, gates)), state_of(polynomial))
                self.assertEqual(gates, given)

    def test_the_terms_of_point_31(self):
        polynomial = polynomial_of(2, [("CX", (0, 1)), ("T", (1,))])
        self.assertEqual(polynomial.terms, [(3, 1)])
        polynomial.apply(("X", (1,)))
        self.assertEqual((polynomial.flips, polynomial.terms, polynomial.turns), (2, [(3, 1)], 0))
        polynomial.apply(("S", (1,)))
        self.assertEqual((polynomial.terms, polynomial.turns), ([(3, 7)], 2))
        cz = polynomial_of(2, [("CZ", (0, 1))])
        self.assertEqual(cz.terms, [(1, 2), (2, 2), (3, 6)])
        y = polynomial_of(1, [("Y", (0,))])
        self.assertEqual((y.terms, y.flips, y.turns), ([(1, 4)], 1, 2))

    def test_terms_without_steps(self):
        for gates in (["T"] * 8, ["T", "TDG"], ["S", "Z", "S"], ["Z", "Z"], ["S", "SDG"]):
            gates = [(kind, (0,)) for kind in gates]
            polynomial = polynomial_of(2, gates)
            self.assertEqual(polynomial.terms, [])
            self.assert_polynomial(2, gates, polynomial)
        four = [("CZ", (0, 1)), ("CZ", (1, 0))] * 2
        self.assertEqual(polynomial_of(2, four).terms, [])

    def test_turns(self):
        for count in range(20):
            self.assertEqual(polynomial_of(1, [("W", ())] * count).turns, count % 8)

    def test_wrong_gates(self):
        polynomial = drawn_polynomial(4, 2)
        before = state_of(polynomial)
        cases = [(InvalidGate, gate) for gate in (
            ("T", (2,)), ("T", (-1,)), ("CX", (0, 0)), ("CX", (0,)), ("W", (0,)), ("CCX", (0, 1)),
            ("H", (2,)), ("H", (0, 1)), ("H", ()), ("SWAP", (0, 2)), ("", ()))]
        cases += [(NotPhaseOnly, ("H", (0,))), (NotPhaseOnly, ("H", (1,)))]
        for error, gate in cases:
            with self.subTest(gate=gate):
                self.assert_error(error, polynomial.apply, gate)
                self.assertEqual(state_of(polynomial), before)

    def test_the_first_wrong_gate(self):
        wrong, h_gate = ("T", (5,)), ("H", (0,))
        for gates, error in (([wrong], InvalidGate), ([h_gate], NotPhaseOnly),
                             ([("T", (0,)), wrong, h_gate], InvalidGate),
                             ([("T", (0,)), h_gate, wrong], NotPhaseOnly)):
            self.assert_error(error, polynomial_of, 2, gates)


class AddTermTest(PolynomialCase):
    def test_any_steps(self):
        for start in range(8):
            for steps in list(range(-20, 21)) + [10 ** 30 + 3, -10 ** 30 - 3, 8 * 10 ** 30]:
                polynomial = PhasePolynomial(2)
                polynomial.add_term(3, start)
                self.assertIsNone(polynomial.add_term(3, steps))
                total = (start + steps) % 8
                self.assertEqual(polynomial.terms, [(3, total)] if total else [])
                self.assert_parts(polynomial)

    def test_ascending_masks(self):
        random = Random(6)
        for width in range(1, 9):
            polynomial = PhasePolynomial(width)
            totals = {}
            for _ in range(4 * width):
                mask, steps = random.randrange(1, 2 ** width), random.randrange(-9, 10)
                polynomial.add_term(mask, steps)
                totals[mask] = (totals.get(mask, 0) + steps) % 8
            self.assertEqual(
                polynomial.terms, sorted((m, totals[m]) for m in totals if totals[m]))
            self.assert_parts(polynomial)
            for index in range(2 ** width):
                wanted = sum(totals[m] * plain_parity(m & index) for m in totals) % 8
                self.assertEqual(polynomial.value(index), wanted)
                self.assertEqual(polynomial.target(index), index)

    def test_nothing_else_changes(self):
        polynomial = drawn_polynomial(7, 3)
        width, turns, flips, _, rows = state_of(polynomial)
        polynomial.add_term(5, 3)
        self.assertEqual(state_of(polynomial), (width, turns, flips, polynomial.terms, rows))


class SameOperatorTest(PolynomialCase):
    def assert_compared(self, first, second):
        width = first.width
        wanted = all(
            effect_of_parts(first, index) == effect_of_parts(second, index)
            for index in range(2 ** width))
        before = state_of(first), state_of(second)
        self.assertIs(same_operator(first, second), wanted)
        self.assertIs(same_operator(second, first), wanted)
        self.assertEqual((state_of(first), state_of(second)), before)
        return wanted

    def test_drawn_polynomials(self):
        for width in (1, 2, 3):
            polynomials = [drawn_polynomial(seed, width, seed % 4) for seed in range(25)]
            found = [self.assert_compared(a, b) for a in polynomials for b in polynomials]
            self.assertIn(False, found)
            self.assertGreater(found.count(True), 25)

    def test_one_part_differs(self):
        for width in (1, 3, 5):
            for gate in [("W", ()), ("X", (0,)), ("T", (0,)), ("Z", (width - 1,))]:
                first, second = drawn_polynomial(9, width), drawn_polynomial(9, width)
                self.assertTrue(self.assert_compared(first, second))
                second.apply(gate)
                self.assertFalse(self.assert_compared(first, second))
        swapped = polynomial_of(2, [("SWAP", (0, 1))])
        self.assertFalse(self.assert_compared(PhasePolynomial(2), swapped))

    def test_different_terms_with_the_same_operator(self):
        """The fifteen masks of four qubits, and the code words of point 34 on five."""
        for width, masks in ((4, range(1, 16)), (5, range(1, 32)), (6, range(1, 16)),
                             (5, [m for m in range(1, 32) if m & 1]),
                             (5, [m for m in range(1, 32) if plain_parity(m & 22) == 0]),
                             (8, [16 * m for m in range(1, 16)])):
            for steps in (1, 2, 5, -3):
                first = drawn_polynomial(11, width)
                second = drawn_polynomial(11, width)
                for mask in masks:
                    second.add_term(mask, steps)
                self.assertNotEqual(first.terms, second.terms)
                self.assertTrue(self.assert_compared(first, second))
        for width, steps, wanted in ((3, 1, False), (3, 2, True), (2, 2, False), (2, 4, True)):
            second = PhasePolynomial(width)
            for mask in range(1, 2 ** width):
                second.add_term(mask, steps)
            self.assertIs(self.assert_compared(PhasePolynomial(width), second), wanted)

    def test_three_qubits_at_once(self):
        """CCZ differs from the identity at one index only."""
        for width, shift in ((3, 0), (5, 1)):
            polynomial = PhasePolynomial(width)
            for mask, steps in ((1, 1), (2, 1), (4, 1), (3, 7), (5, 7), (6, 7), (7, 1)):
                polynomial.add_term(mask << shift, steps)
            self.assertFalse(self.assert_compared(polynomial, PhasePolynomial(width)))
            self.assertEqual([polynomial.value(k << shift) for k in range(8)], [0] * 7 + [4])

    def test_two_gates_cz(self):
        twice = polynomial_of(2, [("CZ", (0, 1)), ("CZ", (1, 0))])
        self.assertEqual(twice.terms, [(1, 4), (2, 4), (3, 4)])
        self.assertTrue(self.assert_compared(twice, PhasePolynomial(2)))

    def test_lists_of_gates(self):
        for seed in range(12):
            gates = drawn_gates(seed, 3, 14, PHASE_KINDS)
            more = gates + drawn_gates(seed + 50, 3, seed % 3, PHASE_KINDS)
            wanted = sparse_columns(3, gates) == sparse_columns(3, more)
            self.assertIs(
                same_operator(polynomial_of(3, gates), polynomial_of(3, more)), wanted)

    def test_widths(self):
        for first, second in ((1, 2), (3, 2), (8, 7)):
            self.assert_error(
                SizeMismatch, same_operator, PhasePolynomial(first), PhasePolynomial(second))

    def test_wide_polynomials(self):
        first, second = drawn_polynomial(3, 40, 60), drawn_polynomial(3, 40, 60)
        self.assertIs(same_operator(first, second), True)
        second.add_term(2 ** 39 + 5, 4)
        self.assertIs(same_operator(first, second), False)


if __name__ == "__main__":
    unittest.main()
