"""Devices, linked places, distances and paths (points 55 and 56)."""

import itertools
import unittest

from phasor.device import Device, grid_device, line_device
from phasor.errors import InvalidDevice
from tests.cases import GatesCase
from tests.devices import (
    drawn_couplings, plain_distances, plain_links, small_devices, wide_devices,
)


def shortest_paths(places, links, a, b, length):
    """All walks with this number of links from a to b."""
    walks = [[a]]
    for _ in range(length):
        walks = [walk + [c] for walk in walks for c in range(places) if (walk[-1], c) in links]
    return [walk for walk in walks if walk[-1] == b]


class DeviceCase(GatesCase):
    def assert_device(self, device, places, couplings):
        """Everything about a device, from its places and the couplings it was given."""
        self.assertIs(type(device), Device)
        self.assertEqual(device.places, places)
        self.assertIs(type(device.couplings), list)
        self.assertEqual(device.couplings, sorted(set(couplings)))
        links = set(couplings) | {(b, a) for a, b in couplings}
        for a, b in itertools.product(range(places), repeat=2):
            self.assertIs(device.directed(a, b), (a, b) in couplings)
            self.assertIs(device.linked(a, b), (a, b) in links)
        for a in range(places):
            self.assertIs(type(device.neighbors(a)), list)
            self.assertEqual(device.neighbors(a), [b for b in range(places) if (a, b) in links])
        self.assert_paths(device, places, links)

    def assert_paths(self, device, places, links):
        distances = plain_distances(places, links)
        for a, b in itertools.product(range(places), repeat=2):
            length = distances[a, b]
            self.assertEqual(device.distance(a, b), length)
            path = device.path(a, b)
            self.assertIs(type(path), list)
            self.assertEqual(path, min(shortest_paths(places, links, a, b, length)))


class DeviceTest(DeviceCase):
    def assert_made(self, places, couplings):
        given = list(couplings)
        device = Device(places, couplings)
        self.assertEqual(couplings, given)
        self.assert_device(device, places, couplings)

    def test_one_place(self):
        device = Device(1, [])
        self.assert_made(1, [])
        self.assertEqual(device.couplings, [])
        self.assertEqual(device.neighbors(0), [])
        self.assertEqual((device.distance(0, 0), device.path(0, 0)), (0, [0]))
        self.assertIs(device.linked(0, 0), False)
        self.assertIs(device.directed(0, 0), False)

    def test_directions(self):
        """Couplings in one direction, in the other, in both, and given more than once."""
        for couplings in ([(0, 1)], [(1, 0)], [(0, 1), (1, 0)], [(0, 1)] * 3,
                          [(1, 0), (0, 1), (1, 0)]):
            self.assert_made(2, couplings)
        self.assert_made(3, [(2, 1), (0, 1), (1, 2), (2, 1)])

    def test_several_shortest_paths(self):
        square = Device(4, [(0, 2), (0, 1), (3, 1), (3, 2)])
        self.assertEqual(square.path(0, 3), [0, 1, 3])
        self.assertEqual(square.path(3, 0), [3, 1, 0])
        self.assertEqual(square.path(2, 1), [2, 0, 1])
        # The least way into a dead end does not help.
        self.assertEqual(Device(5, [(0, 1), (0, 3), (3, 4), (0, 2), (2, 4)]).path(0, 4), [0, 2, 4])
        self.assertEqual(grid_device(3, 3).path(8, 0), [8, 5, 2, 1, 0])
        self.assertEqual(grid_device(3, 3).path(0, 8), [0, 1, 2, 5, 8])
        self.assertEqual(grid_device(3, 3).path(6, 2), [6, 3, 0, 1, 2])

    def test_small_and_wide_devices(self):
        for device in small_devices() + wide_devices():
            self.assert_made(device.places, device.couplings)

    def test_drawn_devices(self):
        for places in range(1, 8):
            for seed in range(6):
                self.assert_made(places, drawn_couplings(seed, places))

    def test_all_devices_with_three_places(self):
        pairs = [(a, b) for a in range(3) for b in range(3) if a != b]
        for size in range(len(pairs) + 1):
            for chosen in itertools.combinations(pairs, size):
                links = {frozenset(pair) for pair in chosen}
                if len(links) >= 2:
                    self.assert_made(3, list(chosen))
                else:
                    self.assert_error(InvalidDevice, Device, 3, list(chosen))

    def test_lists_are_copied(self):
        couplings = [(1, 2), (0, 1)]
        device = Device(3, couplings)
        couplings.append((0, 2))
        couplings[0] = (0, 2)
        device.couplings.append((0, 2))
        device.neighbors(0).append(2)
        device.path(0, 2).append(7)
        self.assert_device(device, 3, [(0, 1), (1, 2)])

    def test_attribute_is_set(self):
        self.assertEqual(vars(Device(2, [(0, 1)]))["places"], 2)


class InvalidDeviceTest(DeviceCase):
    def test_too_few_places(self):
        for places in (0, -1, -7):
            self.assert_error(InvalidDevice, Device, places, [])
            self.assert_error(InvalidDevice, Device, places, [(0, 1)])

    def test_pairs_that_are_no_couplings(self):
        for pair in ((0, 0), (1, 1), (0, 3), (3, 0), (-1, 0), (0, -1), (2, 5), (), (1,), (0, 1, 2)):
            for couplings in ([pair], [(0, 1), pair, (1, 2)], [(0, 1), (1, 2), pair]):
                given = list(couplings)
                self.assert_error(InvalidDevice, Device, 3, couplings)
                self.assertEqual(couplings, given)
        self.assert_error(InvalidDevice, Device, 1, [(0, 0)])

    def test_places_that_cannot_be_reached(self):
        self.assert_error(InvalidDevice, Device, 2, [])
        self.assert_error(InvalidDevice, Device, 3, [(0, 1)])
        self.assert_error(InvalidDevice, Device, 3, [(1, 2), (2, 1)])
        self.assert_error(InvalidDevice, Device, 4, [(0, 1), (3, 2)])
        self.assert_error(InvalidDevice, Device, 6, [(0, 1), (1, 2), (2, 0), (3, 4), (4, 5), (3, 5)])


class LinesAndGridsTest(DeviceCase):
    def test_lines(self):
        for places in range(1, 8):
            self.assert_device(
                line_device(places), places, [(k, k + 1) for k in range(places - 1)])

    def test_grids(self):
        for rows, columns in itertools.product(range(1, 5), range(1, 4)):
            couplings = []
            for row, column in itertools.product(range(rows), range(columns)):
                place = row * columns + column
                if column + 1 < columns:
                    couplings.append((place, place + 1))
                if row + 1 < rows:
                    couplings.append((place, place + columns))
            self.assert_device(grid_device(rows, columns), rows * columns, couplings)

    def test_known_grid(self):
        self.assertEqual(
            grid_device(2, 3).couplings, [(0, 1), (0, 3), (1, 2), (1, 4), (2, 5), (3, 4), (4, 5)])
        self.assertEqual(grid_device(1, 1).couplings, [])
        self.assertEqual(grid_device(1, 4).couplings, line_device(4).couplings)
        self.assertEqual(grid_device(4, 1).couplings, line_device(4).couplings)
        self.assertEqual(grid_device(4, 4).distance(0, 15), 6)

    def test_numbers_below_one(self):
        for number in (0, -1, -5):
            self.assert_error(InvalidDevice, line_device, number)
            for other in (-2, 0, 1, 3):
                self.assert_error(InvalidDevice, grid_device, number, other)
                self.assert_error(InvalidDevice, grid_device, other, number)
        # Their product is not negative.
        self.assert_error(InvalidDevice, grid_device, -2, -2)


class LinksTest(GatesCase):
    def test_links_of_the_tests(self):
        """What other tests take for linked are the pairs for which the device says so."""
        for device in small_devices() + wide_devices():
            links = plain_links(device)
            for a, b in itertools.product(range(device.places), repeat=2):
                self.assertIs(device.linked(a, b), (a, b) in links)


if __name__ == "__main__":
    unittest.main()
