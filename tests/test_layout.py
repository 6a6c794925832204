"""Layouts, their orders, and the first order (points 57 and 70)."""

import itertools
import unittest
from random import Random

from phasor.circuit import Circuit
from phasor.device import Device, grid_device, line_device
from phasor.errors import SizeMismatch
from phasor.layout import Layout, first_order
from tests.cases import GatesCase
from tests.devices import small_devices, wide_devices
from tests.plain import drawn_gates

NO_ORDERS = ([1], [-1], [0, 0], [1, 1], [0, 2], [1, 2], [0, 1, 1], [0, 1, 3], [2, 1, -1],
             [0, 1, 2, 2], [3, 2, 1, 1], [4, 0, 1, 2])


class LayoutTest(GatesCase):
    def assert_layout(self, layout, order):
        self.assertIs(type(layout.order), list)
        self.assertEqual(layout.order, order)
        for qubit, place in enumerate(order):
            self.assertEqual(layout.place_of(qubit), place)
            self.assertEqual(layout.holder_of(place), qubit)

    def test_all_orders_and_swaps(self):
        for size in range(5):
            for order in itertools.permutations(range(size)):
                given = list(order)
                self.assert_layout(Layout(given), list(order))
                self.assertEqual(given, list(order))
                for a, b in itertools.permutations(range(size), 2):
                    layout = Layout(given)
                    self.assertIsNone(layout.swap(a, b))
                    self.assert_layout(
                        layout, [{a: b, b: a}.get(place, place) for place in order])

    def test_many_swaps(self):
        random = Random(1)
        order = list(range(9))
        layout = Layout(order)
        for _ in range(200):
            a, b = random.sample(range(9), 2)
            layout.swap(a, b)
            order = [{a: b, b: a}.get(place, place) for place in order]
            self.assert_layout(layout, order)

    def test_lists_are_copied(self):
        order = [2, 0, 1]
        layout = Layout(order)
        order[0] = 1
        layout.order.append(7)
        handed_out = layout.order
        handed_out[0] = 5
        self.assert_layout(layout, [2, 0, 1])
        handed_out = layout.order
        layout.swap(0, 2)
        self.assertEqual(handed_out, [2, 0, 1])
        self.assert_layout(layout, [0, 2, 1])

    def test_lists_that_are_no_orders(self):
        for order in NO_ORDERS:
            given = list(order)
            self.assert_error(SizeMismatch, Layout, order)
            self.assertEqual(order, given)


class FirstOrderTest(GatesCase):
    def assert_first(self, device, circuit):
        gates = circuit.gates
        order = first_order(device, circuit)
        self.assertIs(type(order), list)
        self.assertEqual(sorted(order), list(range(device.places)))
        self.assertEqual(circuit.gates, gates)
        order.append("more")
        self.assertEqual(first_order(device, circuit) + ["more"], order)
        return order[:-1]

    def test_all_widths(self):
        for device in small_devices() + wide_devices():
            for width in range(1, device.places + 1):
                self.assert_first(device, Circuit(width))
                self.assert_first(device, Circuit(width, drawn_gates(width, width, 30)))

    def test_two_qubits_that_meet(self):
        for device in (line_device(5), grid_device(2, 3), Device(4, [(3, 0), (3, 1), (3, 2)])):
            for a, b in itertools.permutations(range(4), 2):
                order = self.assert_first(device, Circuit(4, [("CX", (a, b)), ("H", (a,))]))
                self.assertTrue(device.linked(order[a], order[b]))

    def test_middle_of_a_star(self):
        star = Device(5, [(2, 0), (2, 1), (2, 3), (4, 2)])
        for middle in range(5):
            gates = [("CZ", (middle, qubit)) for qubit in range(5) if qubit != middle]
            self.assertEqual(self.assert_first(star, Circuit(5, gates))[middle], 2)

    def test_circuits_that_are_too_wide(self):
        for device in small_devices() + wide_devices():
            for more in (1, 2, 9):
                self.assert_error(SizeMismatch, first_order, device, Circuit(device.places + more))


if __name__ == "__main__":
    unittest.main()
