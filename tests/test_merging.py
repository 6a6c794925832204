"""Merging rotations with the same axis (point 42)."""

import unittest

from phasor.merging import merge_rotations, merge_t
from phasor.rotations import from_rotations, to_rotations
from tests.cases import W, GatesCase
from tests.plain import CLIFFORD_KINDS, drawn_gates, form_columns, sparse_columns, t_count
from tests.test_rotations import all_axes, drawn_rotations

X, Y, Z = (0, 1, 0), (0, 1, 1), (0, 0, 1)


class MergeCase(GatesCase):
    def assert_reduced(self, function, width, rotations, tail):
        """What holds for a function from rotation forms to rotation forms. Returns the form."""
        given = list(rotations), list(tail)
        form = function(width, rotations, tail)
        self.assertEqual((rotations, tail), given)
        self.assert_form(width, form)
        found, rest = form
        self.assertIsNot(found, rotations)
        self.assertIsNot(rest, tail)
        self.assertLessEqual(len(found), len(rotations))
        self.assert_separated(found)
        if width <= 4:
            self.assertEqual(
                form_columns(width, found, rest), form_columns(width, rotations, tail))
        found.append("more")
        rest.append("more")
        again = function(width, rotations, tail)
        self.assertEqual(again, (found[:-1], rest[:-1]))
        self.assertEqual((rotations, tail), given)
        return again

    def assert_merged(self, width, rotations, tail):
        form = self.assert_reduced(merge_rotations, width, rotations, tail)
        self.assertEqual((len(rotations) - len(form[0])) % 2, 0)
        return form


class MergeRotationsTest(MergeCase):
    def test_no_rotations(self):
        for width in (1, 2, 3):
            for tail in ([], [W] * 11, drawn_gates(width, width, 10, CLIFFORD_KINDS)):
                self.assertEqual(self.assert_merged(width, [], tail)[0], [])

    def test_single_rotations(self):
        for axis in all_axes(2):
            for steps in (1, 7):
                self.assertEqual(
                    self.assert_merged(2, [(axis, steps)], [("H", (0,))])[0], [(axis, steps)])

    def test_pairs(self):
        for first in all_axes(2):
            for second in all_axes(2):
                for steps in ((1, 1), (1, 7), (7, 1), (7, 7)):
                    rotations = [(first, steps[0]), (second, steps[1])]
                    found = self.assert_merged(2, rotations, [])[0]
                    self.assertEqual(len(found), 0 if first == second else 2)

    def test_three_with_the_same_axis(self):
        for axis in all_axes(2):
            for a in (1, 7):
                for b in (1, 7):
                    rotations = [(axis, a), (axis, b), (axis, 7)]
                    found = self.assert_merged(2, rotations, [("CX", (0, 1))])[0]
                    self.assertEqual([rotation[0] for rotation in found], [axis])

    def test_rotations_between(self):
        """Some commute, some do not; X is no obstacle for X, and Z is one."""
        z_z, x_x = (0, 0, 3), (0, 3, 0)
        cases = (
            ([x_x, z_z, x_x], 1), ([z_z, x_x, z_z, x_x], 0), ([X, Z, X], 3), ([X, Z, X, X], 2),
            ([X, Z, Z, X], 2), ([X, Z, X, Z, X], 5), ([z_z, X, Z, X, z_z], 5),
            ([X, (0, 0, 2), X], 1), ([X, (0, 2, 0), Y, X, (0, 2, 0)], 3),
            ([Z, z_z, (0, 0, 2), Z, z_z, Z, (0, 0, 2)], 1),
        )
        for axes, count in cases:
            for steps in (1, 7):
                rotations = [(axis, steps if k % 3 else 1) for k, axis in enumerate(axes)]
                found = self.assert_merged(2, rotations, [("S", (0,)), W])[0]
                self.assertEqual(len(found), count, axes)

    def test_identity_between(self):
        """A pair that vanishes leaves the axes behind it; S makes Y or -Y of X."""
        for last in (1, 7):
            for steps, count in (((1, 7), 0), ((7, 1), 0), ((1, 1), 2), ((7, 7), 2)):
                rotations = [(X, 1), (Z, steps[0]), (Z, steps[1]), (X, last)]
                self.assertEqual(len(self.assert_merged(1, rotations, [])[0]), count)

    def test_changed_axes(self):
        """Gates that come from a merged pair change the axes behind it, also to negatives."""
        for steps in ((1, 1), (7, 7)):
            for later in all_axes(1) + [(0, 1, 2), (0, 3, 1)]:
                for own in (1, 7):
                    rotations = [(X, steps[0]), (X, steps[1]), (later, own), (Z, 1), (Y, own)]
                    self.assert_merged(2, rotations, [("H", (1,))])

    def test_drawn_rotations(self):
        gains = 0
        for width in (1, 2, 3):
            for seed in range(14):
                rotations = drawn_rotations(seed, width, 2 + seed)
                tail = drawn_gates(seed, width, 6, CLIFFORD_KINDS)
                found = self.assert_merged(width, rotations, tail)[0]
                gains += len(rotations) - len(found)
        self.assertGreater(gains, 40)

    def test_few_axes(self):
        axes = [(0, 0, 1), (0, 0, 6), (0, 3, 0), (0, 0, 7), (0, 4, 4)]
        for seed in range(20):
            rotations = drawn_rotations(seed, 3, 14, axes)
            self.assert_merged(3, rotations, [])

    def test_wide_rotations(self):
        for width in (4, 6, 8):
            for seed in range(3):
                axes = all_axes(width)[seed::max(1, 4 ** width // 12)]
                rotations = drawn_rotations(seed, width, 40, axes)
                if width == 4:
                    rotations = rotations[:12]
                self.assert_merged(width, rotations, drawn_gates(seed, width, 9, CLIFFORD_KINDS))


class MergeTTest(MergeCase):
    def assert_merge_t(self, width, gates):
        result = self.assert_pass(merge_t, width, gates)
        form = merge_rotations(width, *to_rotations(width, gates))
        self.assertEqual(result, from_rotations(*form))
        self.assertEqual(t_count(result), len(form[0]))
        self.assertEqual((t_count(gates) - t_count(result)) % 2, 0)
        self.assert_separated(to_rotations(width, result)[0])
        return result

    def test_no_gates_and_turns(self):
        self.assertEqual(self.assert_merge_t(3, []), [])
        for turns in range(20):
            self.assertEqual(self.assert_merge_t(1, [W] * turns), [W] * (turns % 8))

    def test_no_t_gates(self):
        for seed in range(6):
            gates = drawn_gates(seed, 3, 20, CLIFFORD_KINDS)
            result = self.assert_merge_t(3, gates)
            self.assertEqual([g for g in result if g != W], [g for g in gates if g != W])

    def test_drawn_gates(self):
        for width in (1, 2, 3, 4):
            for seed in range(8):
                self.assert_merge_t(width, drawn_gates(seed, width, 14 + 6 * seed))

    def test_without_h(self):
        kinds = ("X", "Y", "Z", "S", "SDG", "T", "TDG", "CX", "CZ", "SWAP", "W")
        for width in (1, 2, 3):
            for seed in range(5):
                self.assert_merge_t(width, drawn_gates(seed, width, 30, kinds))

    def test_t_gates_that_vanish(self):
        t, h, x = ("T", (0,)), ("H", (0,)), ("X", (0,))
        for gates, count in (([t, t], 0), ([t, x, t], 0), ([t, h, t, h, t], 3), ([t, h, h, t], 0),
                             ([h, t, h, t, t, h, t, h], 2), ([t] * 9, 1)):
            self.assertEqual(t_count(self.assert_merge_t(1, gates)), count)
        swapped = [("T", (0,)), ("SWAP", (0, 1)), ("CX", (1, 0)), ("H", (0,)), ("TDG", (1,))]
        self.assertEqual(t_count(self.assert_merge_t(2, swapped)), 0)

    def test_wide_lists(self):
        for width in (6, 8):
            gates = drawn_gates(width, width, 90)
            result = merge_t(width, gates)
            self.assertLessEqual(t_count(result), t_count(gates))
            self.assertEqual(
                sparse_columns(width, gates[:20]), sparse_columns(width, merge_t(width, gates[:20])))


if __name__ == "__main__":
    unittest.main()
