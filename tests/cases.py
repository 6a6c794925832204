"""What several tests check of lists of gates, of rotation forms and of errors."""

import unittest

from tests.plain import (
    ALL_KINDS, CLIFFORD_KINDS, SIZES, other_than_w, plain_commute, sparse_columns, sparse_turned,
    t_count,
)

W = ("W", ())


def relabeled(order, index):
    """The index in which the bit of each qubit stands at its place of an order."""
    return sum(((index >> qubit) & 1) << place for qubit, place in enumerate(order))


class GatesCase(unittest.TestCase):
    def assert_error(self, error, function, *arguments):
        """The call raises an error of exactly this class."""
        with self.assertRaises(error) as caught:
            function(*arguments)
        self.assertIs(type(caught.exception), error)

    def assert_gates(self, width, gates, kinds=ALL_KINDS):
        """A list of gates of these kinds that fit the width."""
        self.assertIs(type(gates), list)
        for gate in gates:
            self.assertIs(type(gate), tuple)
            kind, qubits = gate
            self.assertIn(kind, kinds)
            self.assertIs(type(qubits), tuple)
            self.assertEqual(len(qubits), SIZES.get(kind, 1))
            self.assertEqual(len(set(qubits)), len(qubits))
            self.assertTrue(all(0 <= qubit < width for qubit in qubits))

    def assert_same(self, width, result, gates):
        """The lists have the same operator, including the phase."""
        self.assertEqual(sparse_columns(width, result), sparse_columns(width, gates))

    def assert_carried(self, order, end, placed, gates, turns=0):
        """The gates on places do what the gates on qubits do, divided by w^turns.

        This is held for every value of every qubit, at the places of the orders.
        """
        given = sparse_turned(sparse_columns(len(order), gates), -turns)
        found = sparse_columns(len(order), placed)
        for index, column in enumerate(given):
            wanted = {relabeled(end, k): x for k, x in column.items()}
            self.assertEqual(found[relabeled(order, index)], wanted)

    def assert_swaps(self, device, order, steps):
        """Swaps of linked places. Returns the order after them."""
        self.assertIs(type(steps), list)
        current = list(order)
        for step in steps:
            self.assertIs(type(step), tuple)
            word, a, b = step
            self.assertEqual(word, "swap")
            self.assertLess(a, b)
            self.assertTrue((a, b) in device.couplings or (b, a) in device.couplings)
            current = [{a: b, b: a}.get(place, place) for place in current]
        return current

    def assert_native(self, device, gates):
        """One-qubit gates on the places of a device, and CX along its couplings."""
        self.assert_gates(device.places, gates)
        for kind, qubits in gates:
            if len(qubits) == 1:
                self.assertIn(kind, ALL_KINDS)
            else:
                self.assertEqual(kind, "CX")
                self.assertIn(qubits, device.couplings)

    def assert_turns_at_end(self, gates):
        """At most seven gates W, which stand at the end."""
        others = other_than_w(gates)
        self.assertLessEqual(len(gates) - len(others), 7)
        self.assertEqual(gates, others + [W] * (len(gates) - len(others)))

    def assert_pass(self, function, width, gates):
        """What holds for all passes. Returns the result."""
        given = list(gates)
        result = function(width, gates)
        self.assertEqual(gates, given)
        self.assertIsNot(result, gates)
        self.assert_gates(width, result)
        self.assert_turns_at_end(result)
        self.assert_same(width, result, gates)
        self.assertLessEqual(t_count(result), t_count(gates))
        # The list is new each time.
        result.append("more")
        again = function(width, gates)
        self.assertEqual(again + ["more"], result)
        self.assertEqual(gates, given)
        return again

    def assert_unchanged_list(self, function, width, gates):
        """The pass returns the same gates in a new list."""
        self.assertEqual(self.assert_pass(function, width, gates), gates)

    def assert_form(self, width, form):
        """A rotation form: a tuple of two lists, as point 40 says."""
        self.assertIs(type(form), tuple)
        rotations, tail = form
        self.assertIs(type(rotations), list)
        for rotation in rotations:
            self.assertIs(type(rotation), tuple)
            axis, steps = rotation
            self.assertIs(type(axis), tuple)
            phase, x, z = axis
            self.assertEqual(phase, 0)
            self.assertIn(x, range(2 ** width))
            self.assertIn(z, range(2 ** width))
            self.assertNotEqual((x, z), (0, 0))
            self.assertIn(steps, (1, 7))
        self.assert_gates(width, tail, CLIFFORD_KINDS)

    def assert_separated(self, rotations):
        """Two rotations with the same axis have one between that does not commute with it."""
        for j, (axis, _) in enumerate(rotations):
            for other, _ in reversed(rotations[:j]):
                if not plain_commute(other, axis):
                    break
                self.assertNotEqual(other, axis)
