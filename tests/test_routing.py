"""Routes, the least number of swaps, end orders and placed gates (points 58 to 61)."""

import itertools
import unittest

from phasor.circuit import Circuit
from phasor.device import Device, grid_device, line_device
from phasor.errors import SizeMismatch, TooLarge
from phasor.routing import end_order, least_route, placed_gates, route
from tests.cases import W, GatesCase
from tests.devices import (
    drawn_order, plain_distances, plain_links, small_devices, wide_devices,
)
from tests.plain import drawn_gates
from tests.test_layout import NO_ORDERS

TWO_QUBIT = ("CX", "CZ", "SWAP", "CX", "T")


def least_swaps(device, gates, order):
    """The least number of swaps, by trying all sequences of swaps."""
    links = plain_links(device)
    # What can be reached with so many swaps: orders, and how many gates are executed.
    level = {(tuple(order), 0)}
    seen = set()
    swaps = 0
    while True:
        level = {(places, executed(links, gates, places, done)) for places, done in level} - seen
        if any(done == len(gates) for _, done in level):
            return swaps
        seen |= level
        level = {
            (tuple({a: b, b: a}.get(place, place) for place in places), done)
            for places, done in level for a, b in links}
        swaps += 1


def executed(links, gates, places, done):
    """How many gates are executed if all are that need no swap. Waiting does not help."""
    while done < len(gates):
        qubits = gates[done][1]
        if len(qubits) == 2 and (places[qubits[0]], places[qubits[1]]) not in links:
            break
        done += 1
    return done


class RouteCase(GatesCase):
    def assert_route(self, device, circuit, order, steps):
        """A route of point 58. Returns the order after it and the number of its swaps."""
        links = plain_links(device)
        current = list(order)
        swaps = 0
        done = 0
        self.assertIs(type(steps), list)
        for step in steps:
            self.assertIs(type(step), tuple)
            if step[0] == "gate":
                self.assertEqual(step, ("gate", done))
                qubits = circuit.gates[done][1]
                if len(qubits) == 2:
                    self.assertIn((current[qubits[0]], current[qubits[1]]), links)
                done += 1
            else:
                word, a, b = step
                self.assertEqual(word, "swap")
                self.assertLess(a, b)
                self.assertIn((a, b), links)
                current = [{a: b, b: a}.get(place, place) for place in current]
                swaps += 1
        self.assertEqual(done, len(circuit))
        return current, swaps

    def assert_new(self, function, device, circuit, order):
        """The route. No argument changes, and the list is new each time."""
        gates, given = circuit.gates, list(order)
        steps = function(device, circuit, order)
        steps.append("more")
        again = function(device, circuit, order)
        self.assertEqual(again + ["more"], steps)
        self.assertEqual(circuit.gates, gates)
        self.assertEqual(order, given)
        return again

    def assert_executed(self, circuit, order, steps):
        """The placed gates and the end order, held against the given gates."""
        given, kept = list(order), list(steps)
        end = end_order(order, steps)
        placed = placed_gates(circuit, order, steps)
        self.assertIs(type(end), list)
        self.assert_gates(len(order), placed)
        self.assertEqual((order, steps), (given, kept))
        self.assert_carried(order, end, placed, circuit.gates)
        end.append("more")
        placed.append("more")
        self.assertEqual(end_order(order, steps) + ["more"], end)
        self.assertEqual(placed_gates(circuit, order, steps) + ["more"], placed)
        return end[:-1], placed[:-1]

    def assert_errors(self, function):
        """The errors of point 57 and of circuits that are too wide."""
        device = line_device(3)
        circuit = Circuit(3, [("CX", (0, 2))])
        for order in NO_ORDERS + ([], [0], [0, 1], [1, 0], [0, 1, 2, 3], [3, 2, 1, 0]):
            self.assert_error(SizeMismatch, function, device, circuit, order)
        for wide in (Circuit(4), Circuit(9, [("CX", (7, 8))])):
            for order in ([0, 1, 2], [0, 1, 2, 3], [0]):
                self.assert_error(SizeMismatch, function, device, wide, order)
        self.assertEqual(circuit.gates, [("CX", (0, 2))])


class PlainRouteTest(RouteCase):
    def assert_routed(self, device, circuit, order):
        """A route of point 59: d - 1 swaps before each two-qubit gate, and no others."""
        steps = self.assert_new(route, device, circuit, order)
        end, _ = self.assert_route(device, circuit, order, steps)
        distances = plain_distances(device.places, plain_links(device))
        left = list(steps)
        current = list(order)
        for index, (_, qubits) in enumerate(circuit.gates):
            if len(qubits) == 2:
                for _ in range(distances[current[qubits[0]], current[qubits[1]]] - 1):
                    word, a, b = left.pop(0)
                    self.assertEqual(word, "swap")
                    current = [{a: b, b: a}.get(place, place) for place in current]
            self.assertEqual(left.pop(0), ("gate", index))
        self.assertEqual(left, [])
        self.assertEqual(current, end)
        return steps

    def test_no_gates(self):
        for device in small_devices():
            self.assertEqual(self.assert_routed(device, Circuit(1), drawn_order(1, device.places)), [])

    def test_gates_without_qubits_and_on_one(self):
        circuit = Circuit(2, [W, ("H", (1,)), W, ("T", (0,))])
        for device in small_devices()[1:]:
            steps = self.assert_routed(device, circuit, drawn_order(2, device.places))
            self.assertEqual(steps, [("gate", k) for k in range(4)])

    def test_linked_and_distant_places(self):
        for device in small_devices() + wide_devices():
            order = drawn_order(3, device.places)
            for kind in ("CX", "CZ", "SWAP"):
                for a, b in itertools.permutations(range(device.places), 2):
                    self.assert_routed(device, Circuit(device.places, [(kind, (a, b))]), order)

    def test_all_orders(self):
        for device in (line_device(4), Device(4, [(3, 0), (3, 1), (3, 2)])):
            circuit = Circuit(4, drawn_gates(3, 4, 20, TWO_QUBIT))
            for order in itertools.permutations(range(4)):
                self.assert_routed(device, circuit, list(order))

    def test_drawn_gates(self):
        for device in small_devices() + wide_devices():
            for width in range(1, device.places + 1):
                circuit = Circuit(width, drawn_gates(width, width, 25, TWO_QUBIT + ("W", "H")))
                for seed in range(3):
                    self.assert_routed(device, circuit, drawn_order(seed, device.places))

    def test_errors(self):
        self.assert_errors(route)


class LeastRouteTest(RouteCase):
    def assert_least(self, device, circuit, order):
        steps = self.assert_new(least_route, device, circuit, order)
        _, swaps = self.assert_route(device, circuit, order, steps)
        self.assertEqual(swaps, least_swaps(device, circuit.gates, order))
        plain = [step for step in route(device, circuit, order) if step[0] == "swap"]
        self.assertLessEqual(swaps, len(plain))
        return swaps, len(plain)

    def test_no_gates(self):
        for device in small_devices():
            order = drawn_order(1, device.places)
            self.assertEqual(self.assert_new(least_route, device, Circuit(1), order), [])

    def test_gates_without_qubits_and_on_one(self):
        circuit = Circuit(2, [W, ("H", (1,)), W, ("T", (0,))])
        for device in small_devices()[1:]:
            self.assertEqual(self.assert_least(device, circuit, drawn_order(2, device.places))[0], 0)

    def test_single_gates(self):
        for device in small_devices():
            distances = plain_distances(device.places, plain_links(device))
            order = drawn_order(3, device.places)
            for a, b in itertools.permutations(range(device.places), 2):
                circuit = Circuit(device.places, [("CZ", (a, b))])
                swaps, _ = self.assert_least(device, circuit, order)
                self.assertEqual(swaps, distances[order[a], order[b]] - 1)

    def test_drawn_gates(self):
        fewer = 0
        for device in small_devices():
            for width in range(2, device.places + 1):
                for seed in range(4):
                    gates = drawn_gates(seed, width, 4 + 6 * seed, TWO_QUBIT + ("W",))
                    swaps, plain = self.assert_least(
                        device, Circuit(width, gates), drawn_order(seed, device.places))
                    fewer += swaps < plain
        self.assertGreater(fewer, 20)

    def test_all_orders(self):
        device = line_device(4)
        circuit = Circuit(4, drawn_gates(8, 4, 12, TWO_QUBIT))
        for order in itertools.permutations(range(4)):
            self.assert_least(device, circuit, list(order))

    def test_swaps_that_help_later_gates(self):
        """Between 0 and 2 on a line, the swap decides who is near to 3."""
        gates = [("CX", (0, 2)), ("CX", (0, 3))]
        self.assertEqual(self.assert_least(line_device(4), Circuit(4, gates), [0, 1, 2, 3])[0], 2)
        gates = [("CX", (0, 2)), ("CX", (1, 3))]
        self.assertEqual(self.assert_least(line_device(4), Circuit(4, gates), [0, 1, 2, 3])[0], 1)

    def test_errors(self):
        self.assert_errors(least_route)

    def test_large_devices(self):
        """More than 5 places, but only after the other errors."""
        for device in wide_devices() + [line_device(6), grid_device(4, 4)]:
            order = drawn_order(1, device.places)
            self.assert_error(TooLarge, least_route, device, Circuit(1), order)
            self.assert_error(TooLarge, least_route, device, Circuit(2, [("CX", (0, 1))]), order)
            self.assert_error(SizeMismatch, least_route, device, Circuit(device.places + 1), order)
            self.assert_error(SizeMismatch, least_route, device, Circuit(1), order[1:])
            self.assert_error(SizeMismatch, least_route, device, Circuit(1), [0] * device.places)


class PlacedGatesTest(RouteCase):
    def test_routes(self):
        for device in small_devices():
            for width in range(1, device.places + 1):
                circuit = Circuit(width, drawn_gates(width, width, 20))
                for seed in range(2):
                    order = drawn_order(seed + width, device.places)
                    for function in (route, least_route):
                        steps = function(device, circuit, order)
                        wanted, _ = self.assert_route(device, circuit, order, steps)
                        end, placed = self.assert_executed(circuit, order, steps)
                        self.assertEqual(end, wanted)
                        for _, qubits in placed:
                            if len(qubits) == 2:
                                self.assertIn(qubits, plain_links(device))

    def test_wide_devices(self):
        for device in wide_devices()[:2]:
            circuit = Circuit(4, drawn_gates(5, 4, 15))
            order = drawn_order(5, device.places)
            self.assert_executed(circuit, order, route(device, circuit, order))

    def test_all_orders(self):
        device = line_device(3)
        circuit = Circuit(3, drawn_gates(4, 3, 15, TWO_QUBIT + ("H", "Y", "W")))
        for order in itertools.permutations(range(3)):
            order = list(order)
            self.assert_executed(circuit, order, route(device, circuit, order))

    def test_known_steps(self):
        """Swaps stand with the smaller place first; gates keep the order of their qubits."""
        circuit = Circuit(3, [("H", (2,)), ("CX", (2, 0)), W, ("SWAP", (1, 0))])
        steps = [("gate", 0), ("swap", 1, 2), ("gate", 1), ("gate", 2), ("swap", 0, 1),
                 ("gate", 3), ("swap", 0, 1)]
        end, placed = self.assert_executed(circuit, [1, 2, 0], steps)
        self.assertEqual(placed, [
            ("H", (0,)), ("SWAP", (1, 2)), ("CX", (0, 2)), W, ("SWAP", (0, 1)),
            ("SWAP", (0, 2)), ("SWAP", (0, 1))])
        # Qubit 0 goes from 1 to 2, qubit 1 from 2 over 1 and 0 to 1, qubit 2 from 0 over 1 to 0.
        self.assertEqual(end, [2, 1, 0])
        self.assertEqual(end_order([0, 1], []), [0, 1])
        self.assertEqual(placed_gates(Circuit(1), [1, 0], []), [])

    def test_swaps_behind_the_last_gate(self):
        circuit = Circuit(2, [("CX", (1, 0))])
        steps = [("gate", 0), ("swap", 0, 1), ("swap", 1, 2), ("swap", 0, 1)]
        self.assert_executed(circuit, [0, 1, 2], steps)


if __name__ == "__main__":
    unittest.main()
