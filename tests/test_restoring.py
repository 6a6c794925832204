"""Swaps that lead from one order to another one (point 63)."""

import itertools
import unittest

from phasor.device import Device, grid_device, line_device
from phasor.errors import SizeMismatch
from phasor.restoring import restore_steps
from tests.cases import GatesCase
from tests.devices import drawn_couplings, drawn_order, small_devices, wide_devices
from tests.test_layout import NO_ORDERS


class RestoreTest(GatesCase):
    def assert_restored(self, device, order, goal):
        given = (list(order), list(goal))
        steps = restore_steps(device, order, goal)
        self.assertEqual((order, goal), given)
        self.assertEqual(self.assert_swaps(device, order, steps), goal)
        self.assertLessEqual(len(steps), device.places * (device.places - 1) // 2)
        steps.append("more")
        self.assertEqual(restore_steps(device, order, goal) + ["more"], steps)

    def test_all_orders_of_small_devices(self):
        for device in small_devices():
            if device.places <= 4:
                orders = [list(order) for order in itertools.permutations(range(device.places))]
                for order, goal in itertools.product(orders, repeat=2):
                    self.assert_restored(device, order, goal)

    def test_all_orders_of_all_small_trees_and_rings(self):
        links = list(itertools.combinations(range(4), 2))
        for chosen in itertools.combinations(links, 3):
            try:
                device = Device(4, list(chosen))
            except ValueError:
                continue
            for order in itertools.permutations(range(4)):
                self.assert_restored(device, list(order), [0, 1, 2, 3])
                self.assert_restored(device, [3, 1, 0, 2], list(order))

    def test_five_places(self):
        for device in small_devices():
            if device.places == 5:
                for order in itertools.permutations(range(5)):
                    self.assert_restored(device, list(order), [0, 1, 2, 3, 4])

    def test_drawn_orders(self):
        devices = wide_devices() + [line_device(16), grid_device(4, 4), Device(16, drawn_couplings(3, 16))]
        for device in devices:
            for seed in range(8):
                order = drawn_order(seed, device.places)
                self.assert_restored(device, order, drawn_order(seed + 50, device.places))
                self.assert_restored(device, order, order)
            backward = list(range(device.places))[::-1]
            self.assert_restored(device, backward, backward[::-1])

    def test_nothing_to_do(self):
        for device in small_devices():
            order = drawn_order(1, device.places)
            self.assertEqual(restore_steps(device, order, list(order)), [])

    def test_lists_that_are_no_orders(self):
        device = line_device(3)
        for wrong in NO_ORDERS + ([], [0], [0, 1], [0, 1, 2, 3]):
            for order, goal in ((wrong, [0, 1, 2]), ([2, 1, 0], wrong), (wrong, list(wrong))):
                given = (list(order), list(goal))
                self.assert_error(SizeMismatch, restore_steps, device, order, goal)
                self.assertEqual((order, goal), given)


if __name__ == "__main__":
    unittest.main()
