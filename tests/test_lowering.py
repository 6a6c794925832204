"""Native gates (point 62)."""

import itertools
import unittest

from phasor.device import Device, grid_device, line_device
from phasor.errors import InvalidDevice, InvalidGate
from phasor.lowering import lower
from tests.cases import W, GatesCase
from tests.devices import plain_links, small_devices, wide_devices
from tests.plain import drawn_gates, sparse_columns, sparse_turned, t_count

ONE_QUBIT = ("H", "X", "Y", "Z", "S", "SDG", "T", "TDG")

FORTH = Device(2, [(0, 1)])
BACK = Device(2, [(1, 0)])
BOTH = Device(2, [(0, 1), (1, 0)])


def linked_gates(device, gates):
    """The gates that the device can be asked for."""
    links = plain_links(device)
    return [gate for gate in gates if len(gate[1]) < 2 or gate[1] in links]


class LowerTest(GatesCase):
    def assert_lowered(self, device, gates):
        given = list(gates)
        result = lower(device, gates)
        self.assertEqual(gates, given)
        self.assertIs(type(result), tuple)
        native, turns = result
        self.assert_native(device, native)
        self.assertIs(type(turns), int)
        self.assertIn(turns, range(8))
        self.assertEqual(turns, sum(1 for gate in gates if gate == W) % 8)
        self.assertEqual(t_count(native), t_count(gates))
        self.assertEqual(
            sparse_columns(device.places, gates),
            sparse_turned(sparse_columns(device.places, native), turns))
        native.append("more")
        self.assertEqual(lower(device, gates), (native[:-1], turns))
        return native[:-1], turns

    def test_no_gates_and_turns(self):
        self.assertEqual(self.assert_lowered(line_device(1), []), ([], 0))
        for turns in range(20):
            self.assertEqual(self.assert_lowered(line_device(2), [W] * turns), ([], turns % 8))

    def test_native_gates_stay(self):
        for device in small_devices():
            gates = [(kind, (place,)) for kind in ONE_QUBIT for place in range(device.places)]
            gates += [("CX", pair) for pair in device.couplings]
            self.assertEqual(self.assert_lowered(device, gates), (gates, 0))

    def test_cx(self):
        h0, h1 = ("H", (0,)), ("H", (1,))
        self.assertEqual(self.assert_lowered(FORTH, [("CX", (0, 1))]), ([("CX", (0, 1))], 0))
        self.assertEqual(self.assert_lowered(BOTH, [("CX", (1, 0))]), ([("CX", (1, 0))], 0))
        for device, pair in ((FORTH, (1, 0)), (BACK, (0, 1))):
            native, turns = self.assert_lowered(device, [("CX", pair)])
            self.assertEqual(sorted(native[:2]), [h0, h1])
            self.assertEqual(native[2], ("CX", pair[::-1]))
            self.assertEqual(sorted(native[3:]), [h0, h1])
            self.assertEqual(turns, 0)

    def test_cz(self):
        """H on the target, CX and H on the target, for any target that the device allows."""
        for device in (FORTH, BACK, BOTH):
            for pair in ((0, 1), (1, 0)):
                native, _ = self.assert_lowered(device, [("CZ", pair)])
                targets = [target for _, target in device.couplings]
                forms = [
                    [("H", (target,)), ("CX", (1 - target, target)), ("H", (target,))]
                    for target in targets]
                self.assertIn(native, forms)

    def test_swap(self):
        """Three gates CX with alternating directions."""
        for pair in ((0, 1), (1, 0)):
            native, _ = self.assert_lowered(BOTH, [("SWAP", pair)])
            a, b = native[0][1]
            self.assertEqual(native, [("CX", (a, b)), ("CX", (b, a)), ("CX", (a, b))])
            for device in (FORTH, BACK):
                native, _ = self.assert_lowered(device, [("SWAP", pair)])
                along = [("CX", device.couplings[0])]
                self.assertEqual([gate for gate in native if gate[0] == "CX"], along * 3)

    def test_all_pairs_of_all_devices(self):
        for device in small_devices() + wide_devices()[:2]:
            for pair in sorted(plain_links(device)):
                for kind in ("CX", "CZ", "SWAP"):
                    self.assert_lowered(device, [(kind, pair)])
                    self.assert_lowered(device, [("T", pair[:1]), W, (kind, pair), W, ("CX", pair)])

    def test_drawn_gates(self):
        for device in small_devices():
            for seed in range(4):
                gates = linked_gates(device, drawn_gates(seed, device.places, 40))
                self.assert_lowered(device, gates)

    def test_wide_devices(self):
        device = grid_device(2, 4)
        self.assert_lowered(device, linked_gates(device, drawn_gates(1, 8, 40)))


class LowerErrorsTest(GatesCase):
    def assert_fault(self, error, device, gates):
        given = list(gates)
        self.assert_error(error, lower, device, gates)
        self.assertEqual(gates, given)

    def misfits(self, places):
        """Gates that do not fit the number of places."""
        return [
            ("H", (places,)), ("T", (-1,)), ("CX", (0, places)), ("CX", (0, 0)), ("SWAP", (-1, 0)),
            ("CZ", (0,)), ("H", (0, 1)), ("H", ()), ("W", (0,)), ("CCX", (0, 1, 2)), ("h", (0,)),
            ("", ()), ("CX", ()), ("CX", (0, 1, 2))]

    def test_gates_that_do_not_fit(self):
        for device in (line_device(1), line_device(3), grid_device(2, 2)):
            for gate in self.misfits(device.places):
                self.assert_fault(InvalidGate, device, [gate])
                self.assert_fault(InvalidGate, device, [("T", (0,)), W, gate, ("H", (0,))])

    def test_places_that_are_not_linked(self):
        for device in small_devices() + wide_devices():
            links = plain_links(device)
            for pair in itertools.permutations(range(device.places), 2):
                if pair not in links:
                    for kind in ("CX", "CZ", "SWAP"):
                        self.assert_fault(InvalidDevice, device, [("H", (0,)), (kind, pair)])

    def test_the_first_fault_counts(self):
        device = line_device(3)
        for misfit in self.misfits(3):
            for kind in ("CX", "CZ", "SWAP"):
                distant = (kind, (2, 0))
                self.assert_fault(InvalidDevice, device, [("T", (0,)), distant, misfit])
                self.assert_fault(InvalidGate, device, [("T", (0,)), misfit, distant])


if __name__ == "__main__":
    unittest.main()
