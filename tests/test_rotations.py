"""Axes, their rotations and rotation forms (points 39 to 43)."""

import unittest
from random import Random

from phasor.rotations import axis_gates, from_rotations, to_rotations
from tests.cases import W, GatesCase
from tests.plain import (
    CLIFFORD_KINDS, all_gates, drawn_gates, form_columns, inverse_gates, p_turn, pauli_step,
    rotation_step, sparse_columns, sparse_step, t_count, value,
)


def all_axes(width):
    masks = range(2 ** width)
    return [(0, x, z) for x in masks for z in masks if x | z]


def drawn_rotations(seed, width, count, axes=None):
    random = Random(seed)
    axes = all_axes(width) if axes is None else axes
    return [(random.choice(axes), random.choice((1, 7))) for _ in range(count)]


def rotation_columns(width, axis, steps):
    columns = []
    for start in range(2 ** width):
        state = rotation_step({start: (1, 0, 0, 0)}, axis, steps)
        columns.append({index: value((x, 2)) for index, x in state.items()})
    return columns


def is_rotated_z(width, cliffords, qubit, pauli):
    """Whether Z on the qubit, behind the Clifford gates, is the Pauli operator before them."""
    for start in range(2 ** width):
        first = {start: (1, 0, 0, 0)}
        for gate in cliffords:
            first = sparse_step(first, gate)
        first = pauli_step(first, (0, 0, 1 << qubit))
        second = pauli_step({start: (1, 0, 0, 0)}, pauli)
        for gate in cliffords:
            second = sparse_step(second, gate)
        if first != second:
            return False
    return True


class AxisGatesTest(GatesCase):
    def assert_axis(self, width, axis, steps):
        gates = axis_gates(axis, steps)
        self.assert_gates(width, gates)
        self.assertEqual(t_count(gates), steps % 2)
        self.assertEqual(sparse_columns(width, gates), rotation_columns(width, axis, steps % 8))
        gates.append("more")
        self.assertEqual(axis_gates(axis, steps) + ["more"], gates)

    def test_all_axes(self):
        for width in (1, 2, 3):
            for axis in all_axes(width):
                for steps in range(8):
                    self.assert_axis(width, axis, steps)

    def test_any_steps(self):
        for axis in ((0, 0, 1), (0, 1, 1), (0, 3, 2), (0, 1, 2)):
            for steps in list(range(-17, 18)) + [10 ** 30 + 1, -10 ** 30 - 1, 10 ** 30]:
                self.assert_axis(2, axis, steps)

    def test_wide_axes(self):
        random = Random(1)
        for width in (4, 5):
            for steps in (1, 7, 2):
                axis = (0, random.randrange(2 ** width), random.randrange(1, 2 ** width))
                self.assert_axis(width, axis, steps)
        self.assert_axis(6, (0, 32, 32), 7)
        self.assert_axis(6, (0, 0, 63), 1)

    def test_t_on_a_qubit(self):
        """T is the rotation of Z by 1 step."""
        for qubit in range(3):
            self.assertEqual(
                rotation_columns(3, (0, 0, 1 << qubit), 1), sparse_columns(3, [("T", (qubit,))]))


class RotationRulesTest(GatesCase):
    def test_images(self):
        """U R(P)^s U' for the images of point 39, also for the negative of an axis."""
        signs = []
        for seed in range(12):
            cliffords = drawn_gates(seed, 2, 8, CLIFFORD_KINDS)
            axis = all_axes(2)[seed]
            before = inverse_gates(cliffords)
            for steps in (1, 2, 7):
                gates = before + axis_gates(axis, steps) + cliffords
                columns = sparse_columns(2, gates)
                wanted = [image for image in all_axes(2)
                          if columns == rotation_columns(2, image, steps)]
                negative = [
                    image for image in all_axes(2)
                    if columns == [
                        {k: p_turn(x, steps) for k, x in column.items()}
                        for column in rotation_columns(2, image, (8 - steps) % 8)]]
                self.assertEqual(len(wanted) + len(negative), 1)
                signs.append(len(wanted))
        self.assertIn(0, signs)
        self.assertIn(1, signs)


class ToRotationsTest(GatesCase):
    def assert_plain(self, width, gates):
        given = list(gates)
        form = to_rotations(width, gates)
        self.assertEqual(gates, given)
        self.assert_form(width, form)
        rotations, tail = form
        self.assert_turns_at_end(tail)
        cliffords = [gate for gate in gates if gate[0] not in ("T", "TDG", "W")]
        self.assertEqual([gate for gate in tail if gate != W], cliffords)
        self.assertEqual(len(rotations), t_count(gates))
        left = list(rotations)
        before = []
        for kind, qubits in gates:
            if kind not in ("T", "TDG"):
                before.append((kind, qubits))
                continue
            (_, x, z), steps = left.pop(0)
            own = 1 if kind == "T" else 7
            # P is the axis, or the negative of it with the opposite steps.
            phase = 0 if steps == own else 2
            self.assertTrue(is_rotated_z(width, before, qubits[0], (phase, x, z)))
        self.assertEqual(form_columns(width, rotations, tail), sparse_columns(width, gates))
        rotations.append("more")
        tail.append("more")
        self.assertEqual(to_rotations(width, gates), (rotations[:-1], tail[:-1]))
        self.assertEqual(gates, given)

    def test_example(self):
        gates = [("H", (0,)), ("T", (0,)), ("X", (0,)), ("TDG", (0,))]
        self.assertEqual(
            to_rotations(1, gates),
            ([((0, 1, 0), 1), ((0, 1, 0), 1)], [("H", (0,)), ("X", (0,))] + [W] * 7))

    def test_no_gates(self):
        for width in (1, 2, 5):
            self.assertEqual(to_rotations(width, []), ([], []))

    def test_turns_alone(self):
        for turns in range(20):
            self.assertEqual(to_rotations(2, [W] * turns), ([], [W] * (turns % 8)))

    def test_no_t_gates(self):
        for width in (1, 2, 3):
            gates = drawn_gates(width, width, 20, CLIFFORD_KINDS)
            self.assert_plain(width, gates)
            self.assertEqual(to_rotations(width, gates)[0], [])

    def test_a_t_gate_behind_each_gate(self):
        for width in (1, 2, 3):
            for gate in all_gates(width, CLIFFORD_KINDS):
                for qubit in range(width):
                    for start in (("H", (qubit,)), ("S", (qubit,)), W):
                        gates = [("H", (0,)), start, gate, ("T", (qubit,)), ("TDG", (qubit,))]
                        self.assert_plain(width, gates)

    def test_drawn_gates(self):
        for width in (1, 2, 3):
            for seed in range(6):
                self.assert_plain(width, drawn_gates(seed, width, 18 + 2 * seed))

    def test_more_than_seven_turns(self):
        gates = [W] * 5 + [("T", (0,)), ("X", (0,)), ("T", (0,)), ("TDG", (0,))] + [W] * 9
        self.assert_plain(1, gates)

    def test_wide_lists(self):
        for width in (6, 8):
            gates = drawn_gates(width, width, 150)
            rotations, tail = to_rotations(width, gates)
            self.assertEqual(len(rotations), t_count(gates))
            self.assert_form(width, (rotations, tail))


class FromRotationsTest(GatesCase):
    def assert_list(self, width, rotations, tail):
        given = list(rotations), list(tail)
        gates = from_rotations(rotations, tail)
        self.assertEqual((rotations, tail), given)
        self.assert_gates(width, gates)
        wanted = []
        for axis, steps in rotations:
            wanted += axis_gates(axis, steps)
        self.assertEqual(gates, wanted + tail)
        self.assertEqual(t_count(gates), len(rotations))
        self.assertEqual(sparse_columns(width, gates), form_columns(width, rotations, tail))
        gates.append("more")
        self.assertEqual((rotations, tail), given)

    def test_drawn_forms(self):
        for width in (1, 2, 3):
            for seed in range(4):
                rotations = drawn_rotations(seed, width, 2 * seed)
                self.assert_list(width, rotations, drawn_gates(seed, width, 8, CLIFFORD_KINDS))

    def test_empty_parts(self):
        self.assertEqual(from_rotations([], []), [])
        self.assert_list(2, [], [W] * 9 + [("H", (0,))])
        self.assert_list(2, [((0, 1, 3), 7)], [])

    def test_a_new_list(self):
        tail = [("H", (0,))]
        self.assertIsNot(from_rotations([], tail), tail)

    def test_the_plain_form(self):
        for seed in range(6):
            gates = drawn_gates(seed, 3, 20)
            self.assert_same(3, from_rotations(*to_rotations(3, gates)), gates)


if __name__ == "__main__":
    unittest.main()
