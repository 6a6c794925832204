"""Layers of commuting rotations (points 44 to 46)."""

import itertools
import unittest
from random import Random

from phasor.layers import diagonal_gates, layer_t, reduce_layers, rotation_layers
from phasor.merging import merge_rotations
from phasor.rotations import from_rotations, to_rotations
from tests.cases import W
from tests.plain import (
    CLIFFORD_KINDS, drawn_gates, form_columns, pauli_step, plain_commute, sparse_step, t_count,
)
from tests.test_codes import DEGREE_WORDS, distance, word_of
from tests.test_merging import MergeCase
from tests.test_rotations import all_axes, drawn_rotations


def plain_numbers(rotations):
    """The layer numbers of point 44."""
    numbers = []
    for axis, _ in rotations:
        earlier = [
            number for number, (other, _) in zip(numbers, rotations)
            if not plain_commute(other, axis)]
        numbers.append(max(earlier, default=-1) + 1)
    return numbers


def least_odd(width, rotations):
    """The least number of odd terms of rotations of Z, by trying all code words."""
    odd = 0
    for (_, _, z), _ in rotations:
        odd ^= word_of([z])
    return min(distance(odd, code) for code in DEGREE_WORDS[width])


def commuting_axes(seed, width, count):
    """Axes of which any two commute; some may be equal."""
    random = Random(seed)
    axes = []
    for _ in range(400):
        axis = (0, random.randrange(2 ** width), random.randrange(2 ** width))
        if axis[1:] != (0, 0) and all(plain_commute(axis, other) for other in axes):
            axes.append(axis)
        if len(axes) == count:
            break
    return axes


class RotationLayersTest(MergeCase):
    def assert_layers(self, rotations):
        given = list(rotations)
        layers = rotation_layers(rotations)
        self.assertEqual(rotations, given)
        self.assertIs(type(layers), list)
        self.assertTrue(all(type(layer) is list for layer in layers))
        numbers = plain_numbers(rotations)
        wanted = [
            [rotation for rotation, number in zip(rotations, numbers) if number == k]
            for k in range(max(numbers, default=-1) + 1)]
        self.assertEqual(layers, wanted)
        for layer in layers:
            for (first, _), (second, _) in itertools.combinations(layer, 2):
                self.assertTrue(plain_commute(first, second))
        for layer in layers:
            layer.append("more")
        layers.append("more")
        self.assertEqual(rotation_layers(rotations), wanted)
        self.assertEqual(rotations, given)
        return wanted

    def test_no_rotations(self):
        self.assertEqual(self.assert_layers([]), [])

    def test_known_layers(self):
        x, z, other = ((0, 1, 0), 1), ((0, 0, 1), 7), ((0, 0, 2), 1)
        self.assertEqual(self.assert_layers([x, z, other, x]), [[x, other], [z], [x]])
        self.assertEqual(self.assert_layers([x, x, x]), [[x, x, x]])
        self.assertEqual(self.assert_layers([z, other, ((0, 2, 1), 1), x]),
                         [[z, other], [((0, 2, 1), 1)], [x]])

    def test_drawn_rotations(self):
        for width in (1, 2, 3, 5, 8):
            axes = all_axes(width) if width < 4 else all_axes(width)[::97]
            for seed in range(6):
                self.assert_layers(drawn_rotations(seed, width, 6 * seed, axes))

    def test_the_same_operator(self):
        for seed in range(8):
            rotations = drawn_rotations(seed, 2, 8)
            ordered = [rotation for layer in rotation_layers(rotations) for rotation in layer]
            self.assertEqual(form_columns(2, ordered, []), form_columns(2, rotations, []))


class DiagonalGatesTest(MergeCase):
    def assert_diagonal(self, width, axes):
        given = list(axes)
        gates = diagonal_gates(width, axes)
        self.assertEqual(axes, given)
        self.assert_gates(width, gates, CLIFFORD_KINDS)
        for axis in axes:
            self.assert_image_of_z(width, gates, axis)
        gates.append("more")
        self.assertEqual(diagonal_gates(width, axes) + ["more"], gates)

    def assert_image_of_z(self, width, gates, axis):
        """The gates behind the axis are a product of Z, or its negative, behind the gates."""
        results = []
        for start in range(2 ** width):
            plain, rotated = {start: (1, 0, 0, 0)}, pauli_step({start: (1, 0, 0, 0)}, axis)
            for gate in gates:
                plain, rotated = sparse_step(plain, gate), sparse_step(rotated, gate)
            results.append((plain, rotated))
        images = [
            (phase, 0, z) for phase in (0, 2) for z in range(1, 2 ** width)
            if all(pauli_step(plain, (phase, 0, z)) == rotated for plain, rotated in results)]
        self.assertEqual(len(images), 1)

    def test_no_axes(self):
        for width in (1, 3, 8):
            self.assert_diagonal(width, [])

    def test_single_axes(self):
        for width in (1, 2, 3):
            for axis in all_axes(width):
                self.assert_diagonal(width, [axis])

    def test_pairs_and_triples(self):
        axes = all_axes(2)
        for count in (2, 3):
            for chosen in itertools.product(axes, repeat=count):
                if all(plain_commute(a, b) for a, b in itertools.combinations(chosen, 2)):
                    self.assert_diagonal(2, list(chosen))

    def test_commuting_axes(self):
        for width in (3, 4):
            for seed in range(10):
                self.assert_diagonal(width, commuting_axes(seed, width, 5))

    def test_dependent_axes(self):
        x_x, y_y, z_z = (0, 3, 0), (0, 3, 3), (0, 0, 3)
        for axes in itertools.permutations([x_x, y_y, z_z]):
            self.assert_diagonal(2, list(axes))
            self.assert_diagonal(2, list(axes) * 2)

    def test_axes_of_z(self):
        self.assert_diagonal(3, [(0, 0, z) for z in range(1, 8)])

    def test_wide_axes(self):
        self.assert_diagonal(5, commuting_axes(5, 5, 6))
        self.assert_diagonal(6, commuting_axes(6, 6, 7))


class ReduceLayersTest(MergeCase):
    def assert_layered(self, width, rotations, tail):
        return self.assert_reduced(reduce_layers, width, rotations, tail)

    def assert_z_layer(self, width, rotations):
        found = self.assert_layered(width, rotations, [])[0]
        self.assertEqual(len(found), least_odd(width, rotations))
        return len(found)

    def test_no_rotations(self):
        for width in (1, 3, 6):
            self.assertEqual(self.assert_layered(width, [], [W] * 9), ([], [W]))

    def test_axes_of_z(self):
        for width in (1, 2, 3):
            axes = [(0, 0, z) for z in range(1, 2 ** width)]
            for seed in range(6):
                self.assert_z_layer(width, drawn_rotations(seed, width, 2 * seed, axes))

    def test_axes_of_z_with_code_words(self):
        for width, seeds in ((4, 12), (5, 12)):
            axes = [(0, 0, z) for z in range(1, 2 ** width)]
            gains = 0
            for seed in range(seeds):
                rotations = drawn_rotations(seed, width, 14 + 2 * seed, axes)
                gains += len(rotations) - self.assert_z_layer(width, rotations)
            self.assertGreater(gains, 30)

    def test_fifteen_parities(self):
        rotations = [((0, 0, z), 1) for z in range(1, 16)]
        self.assertEqual(self.assert_z_layer(4, rotations), 0)
        for left in range(16):
            for steps in (1, 7):
                some = [((0, 0, z), steps) for z in range(1, left + 1)]
                self.assertEqual(self.assert_z_layer(4, some), min(left, 15 - left))

    def test_fifteen_parities_in_other_bases(self):
        """Products of commuting axes, which become the fifteen products of Z."""
        given = [((0, 0, z), 1) for z in range(1, 16)]
        tail = [("H", (0,)), ("CX", (0, 1)), ("S", (1,)), ("H", (1,)), ("CZ", (1, 3)), ("H", (2,))]
        gates = tail + from_rotations(given, [])
        rotations, rest = to_rotations(4, gates)
        self.assertTrue(any(axis[1] for axis, _ in rotations))
        self.assertEqual(len(rotations), 15)
        self.assertEqual(self.assert_layered(4, rotations, rest)[0], [])

    def test_more_than_one_layer(self):
        """Two layers of fifteen, with a rotation between that does not commute."""
        parities = [((0, 0, z), 7) for z in range(1, 16)]
        rotations = parities + [((0, 9, 2), 1)] + parities[:14]
        self.assertEqual(len(self.assert_layered(4, rotations, [("H", (3,))])[0]), 2)

    def test_drawn_rotations(self):
        for width in (1, 2, 3):
            for seed in range(12):
                rotations = drawn_rotations(seed, width, 2 + seed)
                tail = drawn_gates(seed, width, 6, CLIFFORD_KINDS)
                self.assert_layered(width, rotations, tail)

    def test_drawn_layers(self):
        """Layers with many axes on four qubits."""
        for seed in range(5):
            first = [(axis, 1) for axis in commuting_axes(seed, 4, 12)]
            second = [(axis, 7) for axis in commuting_axes(seed + 50, 4, 9)]
            third = [(axis, 1 + 6 * (axis[1] % 2)) for axis in commuting_axes(seed + 90, 4, 9)]
            rotations = first + second + third
            found = self.assert_layered(4, rotations, [("S", (2,)), W])[0]
            self.assertLess(len(found), len(rotations))

    def test_wide_rotations(self):
        """Above width 5 only rotations with the same axis are merged."""
        parities = [((0, 0, z), 1) for z in range(1, 16)]
        self.assertEqual(self.assert_layered(6, parities, []), (parities, []))
        for width in (6, 8):
            axes = all_axes(width)[::max(1, 4 ** width // 10)]
            rotations = drawn_rotations(3, width, 30, axes)
            form = self.assert_layered(width, rotations, [("H", (0,))])
            self.assertEqual(len(form[0]), len(merge_rotations(width, rotations, [])[0]))

    def test_width_five(self):
        rotations = [((0, 0, z), 1) for z in range(1, 32)] + [((0, 3, 4), 1)]
        found = self.assert_layered(5, rotations, [("CX", (0, 1))])
        self.assertEqual(len(found[0]), 1)
        self.assertEqual(
            form_columns(5, *found), form_columns(5, rotations, [("CX", (0, 1))]))


class LayerTTest(MergeCase):
    def assert_layer_t(self, width, gates):
        result = self.assert_pass(layer_t, width, gates)
        merged = merge_rotations(width, *to_rotations(width, gates))
        form = reduce_layers(width, *merged)
        self.assertEqual(result, from_rotations(*form))
        self.assert_separated(to_rotations(width, result)[0])
        return result

    def test_no_gates_and_turns(self):
        self.assertEqual(self.assert_layer_t(3, []), [])
        for turns in range(20):
            self.assertEqual(self.assert_layer_t(1, [W] * turns), [W] * (turns % 8))

    def test_no_t_gates(self):
        gates = drawn_gates(1, 3, 20, CLIFFORD_KINDS)
        result = self.assert_layer_t(3, gates)
        self.assertEqual([g for g in result if g != W], [g for g in gates if g != W])

    def test_drawn_gates(self):
        for width in (1, 2, 3, 4):
            for seed in range(6):
                self.assert_layer_t(width, drawn_gates(seed, width, 14 + 6 * seed))

    def test_without_h(self):
        """One layer, whose number of T gates is the least one of point 35."""
        kinds = ("X", "Y", "Z", "S", "SDG", "T", "TDG", "CX", "CZ", "SWAP", "W")
        for width in (2, 3, 4, 5):
            for seed in range(3):
                gates = drawn_gates(seed, width, 30 * (width - 1), kinds)
                rotations = to_rotations(width, gates)[0]
                result = self.assert_layer_t(width, gates)
                self.assertEqual(t_count(result), least_odd(width, rotations))

    def test_wide_lists(self):
        for width in (6, 8):
            gates = drawn_gates(width, width, 90)
            result = layer_t(width, gates)
            self.assertLessEqual(t_count(result), t_count(gates))
            self.assert_turns_at_end(result)
            self.assert_same(width, layer_t(width, gates[:20]), gates[:20])


if __name__ == "__main__":
    unittest.main()
