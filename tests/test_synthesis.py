"""Lists of gates for tableaux, and short Clifford lists (points 19 and 20)."""

import unittest

from phasor.errors import NotClifford, TooLarge
from phasor.synthesis import same_clifford, synthesize
from phasor.tableau import Tableau, tableau_of
from tests.cases import W, GatesCase
from tests.plain import (
    CLIFFORD_KINDS, all_gates, drawn_gates, inverse_gates, plain_columns, plain_phase, plain_run,
)
from tests.test_tableau import images_of


class SynthesisCase(GatesCase):
    def assert_synthesized(self, width, gates):
        tableau = tableau_of(width, gates)
        before = images_of(tableau)
        result = synthesize(tableau)
        self.assertEqual(images_of(tableau), before)
        self.assert_gates(width, result, CLIFFORD_KINDS)
        self.assertNotIn(W, result)
        self.assertLessEqual(len(result), 4 * width * width + 10 * width)
        return result

    def assert_up_to_phase(self, width, gates):
        result = self.assert_synthesized(width, gates)
        columns = plain_columns(width, result)
        self.assertIsNotNone(plain_phase(columns, plain_columns(width, gates)))


class SynthesizeTest(SynthesisCase):
    def test_identity(self):
        for width in (1, 2, 3):
            self.assert_up_to_phase(width, [])

    def test_each_gate(self):
        for width in (1, 2, 3):
            for gate in all_gates(width, CLIFFORD_KINDS):
                self.assert_up_to_phase(width, [gate])

    def test_drawn_operators(self):
        for width in (1, 2, 3, 4):
            for seed in range(16 if width < 4 else 4):
                gates = drawn_gates(seed, width, 12 * width + seed, CLIFFORD_KINDS)
                self.assert_up_to_phase(width, gates)

    def test_all_on_one_qubit(self):
        """All words of H and S up to six letters give all 24 operators."""
        for length in range(7):
            for bits in range(2 ** length):
                gates = [("HS"[(bits >> k) & 1], (0,)) for k in range(length)]
                for kind in ("X", "Y", "Z"):
                    self.assert_up_to_phase(1, gates + [(kind, (0,))])

    def test_wide_tableaux(self):
        for width in (5, 7, 8, 12):
            for seed in range(3):
                gates = drawn_gates(seed, width, 40 * width, CLIFFORD_KINDS)
                result = self.assert_synthesized(width, gates)
                # The list and then the inverse of the given one do nothing.
                both = tableau_of(width, result + inverse_gates(gates))
                self.assertEqual(images_of(both), images_of(Tableau(width)))

    def test_inverse_tableaux(self):
        gates = drawn_gates(5, 3, 30, CLIFFORD_KINDS)
        result = synthesize(tableau_of(3, gates).inverse())
        columns = plain_columns(3, gates + result)
        self.assertIsNotNone(plain_phase(columns, plain_columns(3, [])))

    def test_no_chance(self):
        gates = drawn_gates(17, 4, 60, CLIFFORD_KINDS)
        results = [synthesize(tableau_of(4, gates)) for _ in range(3)]
        self.assertEqual(results, [results[0]] * 3)

    def test_new_lists(self):
        tableau = tableau_of(1, [("H", (0,))])
        synthesize(tableau).append("more")
        self.assertNotIn("more", synthesize(tableau))


class SameCliffordTest(SynthesisCase):
    def assert_short(self, width, gates):
        given = list(gates)
        result = same_clifford(width, gates)
        self.assertEqual(gates, given)
        self.assert_gates(width, result, CLIFFORD_KINDS)
        others = [gate for gate in result if gate != W]
        self.assertLessEqual(len(others), 4 * width * width + 10 * width)
        self.assertEqual(result, others + [W] * (len(result) - len(others)))
        self.assertLessEqual(len(result) - len(others), 7)
        return result

    def assert_same(self, width, gates):
        result = self.assert_short(width, gates)
        self.assertEqual(plain_columns(width, result), plain_columns(width, gates))

    def test_no_gates(self):
        for width in (1, 2, 3):
            self.assert_same(width, [])

    def test_each_gate(self):
        for width in (1, 2, 3):
            for gate in all_gates(width, CLIFFORD_KINDS):
                self.assert_same(width, [gate])

    def test_every_phase(self):
        for turns in range(20):
            self.assert_same(1, [W] * turns)
            self.assert_same(2, [("H", (0,))] + [W] * turns + [("CX", (0, 1)), ("Y", (1,))])

    def test_drawn_lists(self):
        for width in (1, 2, 3, 4):
            for seed in range(12 if width < 4 else 3):
                gates = drawn_gates(seed + 9, width, 10 * width + seed, CLIFFORD_KINDS)
                self.assert_same(width, gates)

    def test_long_lists(self):
        self.assert_same(2, drawn_gates(1, 2, 600, CLIFFORD_KINDS))

    def test_width_six(self):
        gates = drawn_gates(6, 6, 120, CLIFFORD_KINDS)
        result = self.assert_short(6, gates)
        for index in (0, 21, 63):
            self.assertEqual(plain_run(6, result, index), plain_run(6, gates, index))

    def test_too_wide(self):
        for width in (7, 8, 20):
            for gates in ([], [("H", (0,))], [W]):
                with self.assertRaises(TooLarge):
                    same_clifford(width, gates)

    def test_t_gates(self):
        for kind in ("T", "TDG"):
            for width in (1, 6, 7, 20):
                for gates in ([(kind, (0,))], [("H", (0,)), (kind, (0,)), W],
                              [(kind, (0,)), (kind, (0,))]):
                    given = list(gates)
                    with self.assertRaises(NotClifford):
                        same_clifford(width, gates)
                    self.assertEqual(gates, given)


if __name__ == "__main__":
    unittest.main()
