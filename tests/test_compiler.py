"""The compiler, its results and their audit (points 70 to 74, and 53 and 60 for all of it)."""

import itertools
import unittest

from phasor.cancelling import cancel
from phasor.circuit import Circuit
from phasor.compiler import Compiled, Compiler, audit_compiled
from phasor.device import Device, grid_device, line_device
from phasor.errors import InvalidText, SizeMismatch, TooLarge, UnknownPass
from phasor.layout import first_order
from phasor.lowering import lower
from phasor.macros import macro_gates
from phasor.passes import PASSES, optimize
from phasor.restoring import restore_steps
from phasor.routing import end_order, least_route, placed_gates, route
from tests.cases import W, GatesCase
from tests.devices import drawn_couplings, drawn_order, small_devices, wide_devices
from tests.plain import CLIFFORD_KINDS, drawn_gates, other_than_w, t_count
from tests.test_layout import NO_ORDERS
from tests.test_routing import least_swaps
from tests.test_timing import longest_chain


def steps_of_compiling(device, circuit, start, options):
    """The steps of point 70, one after the other: the gates, the orders, swaps and turns."""
    optimized = optimize(
        circuit, passes=options.get("passes", PASSES), rounds=options.get("rounds", 2))
    order = first_order(device, optimized) if start is None else start
    search = options.get("search", False) and device.places <= 5
    steps = (least_route if search else route)(device, optimized, order)
    if options.get("restore", False):
        steps = steps + restore_steps(device, end_order(order, steps), order)
    native, turns = lower(device, placed_gates(optimized, order, steps))
    gates = cancel(device.places, native)
    kept = other_than_w(gates)
    swaps = sum(1 for step in steps if step[0] == "swap")
    turns = (turns + len(gates) - len(kept)) % 8
    return kept, order, end_order(order, steps), swaps, turns


class CompilerCase(GatesCase):
    def assert_result(self, device, result, circuit, start=None, **options):
        """What points 71 and 72 say, except for the amplitudes."""
        self.assertIs(type(result), Compiled)
        self.assertIs(type(result.circuit), Circuit)
        self.assertEqual(result.circuit.width, device.places)
        gates = result.circuit.gates
        self.assert_native(device, gates)
        for order in (result.start, result.end):
            self.assertIs(type(order), list)
            self.assertEqual(sorted(order), list(range(device.places)))
        if start is not None:
            self.assertEqual(result.start, start)
        if options.get("restore", False):
            self.assertEqual(result.end, result.start)
        self.assertIn(result.turns, range(8))
        self.assertLessEqual(t_count(gates), t_count(circuit.gates))
        self.assertEqual(
            (gates, result.start, result.end, result.swaps, result.turns),
            steps_of_compiling(device, circuit, start, options))
        self.assert_report(result)

    def assert_report(self, result):
        gates = result.circuit.gates
        two = sum(1 for kind, _ in gates if kind == "CX")
        wanted = [f"t {t_count(gates)}", f"cx {two}", f"gates {len(gates)}",
                  f"depth {longest_chain(gates)}", f"swaps {result.swaps}"]
        self.assertIs(type(result.report()), list)
        self.assertEqual(result.report(), wanted)
        result.report().append("more")
        self.assertEqual(result.report(), wanted)

    def assert_compiled(self, device, circuit, start=None, **options):
        """A compiled circuit, held against the given one for every value of every qubit."""
        given, order = circuit.gates, None if start is None else list(start)
        result = Compiler(device, **options).run(circuit, start=start)
        self.assertEqual((circuit.gates, start), (given, order))
        self.assert_result(device, result, circuit, start, **options)
        self.assert_carried(
            result.start, result.end, result.circuit.gates, circuit.gates, result.turns)
        self.assert_audit_of(result, circuit)
        return result

    def assert_audit_of(self, result, circuit):
        """The audit of a result of the program: not unequal, with a known phase."""
        gates = circuit.gates
        found = audit_compiled(result, circuit)
        self.assertIs(type(found), tuple)
        self.assertIn(found, (("equal", (8 - result.turns) % 8), ("open", None)))
        if t_count(gates) == 0:
            self.assertEqual(found[0], "equal")
        self.assertEqual(circuit.gates, gates)
        return found


class RunTest(CompilerCase):
    def test_no_gates_and_turns(self):
        for device in small_devices():
            for width in range(1, device.places + 1):
                result = self.assert_compiled(device, Circuit(width))
                self.assertEqual((result.circuit.gates, result.turns), ([], 0))
            for turns in (1, 7, 9):
                result = self.assert_compiled(device, Circuit(1, [W] * turns))
                self.assertEqual((result.circuit.gates, result.turns), ([], turns % 8))

    def test_all_widths_of_all_devices(self):
        for device in small_devices() + wide_devices()[:2]:
            for width in range(1, device.places + 1):
                self.assert_compiled(device, Circuit(width, drawn_gates(width, width, 25)))

    def test_all_start_orders(self):
        circuit = Circuit(3, drawn_gates(2, 3, 20) + macro_gates("CCX", (2, 0, 1)))
        for device in (line_device(3), Device(4, [(3, 0), (3, 1), (2, 3)])):
            for order in itertools.permutations(range(device.places)):
                for restore in (False, True):
                    self.assert_compiled(device, circuit, list(order), restore=restore)

    def test_search_and_restore(self):
        devices = [device for device in small_devices() if device.places >= 3]
        fewer = 0
        for device in devices + [line_device(6)]:
            circuit = Circuit(3, drawn_gates(1, 3, 30, ("CX", "T", "H", "CZ", "W", "SWAP")))
            order = drawn_order(7, device.places)
            for start in (None, order):
                swaps = {}
                for search, restore in itertools.product((False, True), repeat=2):
                    result = self.assert_compiled(
                        device, circuit, start, search=search, restore=restore)
                    swaps[search, restore] = result.swaps
                    if search and not restore and device.places <= 5:
                        gates = optimize(circuit).gates
                        self.assertEqual(result.swaps, least_swaps(device, gates, result.start))
                self.assertLessEqual(swaps[True, False], swaps[False, False])
                fewer += swaps[True, False] < swaps[False, False]
        self.assertGreater(fewer, 3)

    def test_search_on_large_devices(self):
        """With more than 5 places the route is the plain one."""
        for device in wide_devices()[:2]:
            circuit = Circuit(5, drawn_gates(3, 5, 20))
            plain = Compiler(device).run(circuit)
            found = Compiler(device, search=True).run(circuit)
            self.assertEqual(found.circuit.gates, plain.circuit.gates)
            self.assertEqual((found.swaps, found.end), (plain.swaps, plain.end))

    def test_passes_and_rounds(self):
        device = line_device(4)
        gates = drawn_gates(4, 4, 40, ("H", "T", "CX", "X", "W", "T"))
        for passes in ([], (), ["fold"], ("cancel", "rotations"), PASSES, list(PASSES)[::-1]):
            for rounds in (0, 1, 3):
                given = list(passes)
                self.assert_compiled(
                    device, Circuit(4, gates), passes=passes, rounds=rounds)
                self.assertEqual(list(passes), given)
        self.assertEqual(
            t_count(Compiler(device, passes=[], rounds=5).run(Circuit(1, [("T", (0,))])).circuit.gates),
            1)

    def test_one_place_and_one_qubit(self):
        for seed in range(6):
            self.assert_compiled(line_device(1), Circuit(1, drawn_gates(seed, 1, 30)), restore=True)
            self.assert_compiled(grid_device(2, 2), Circuit(1, drawn_gates(seed, 1, 30)))

    def test_drawn_circuits_and_devices(self):
        for places in (2, 3, 4, 5):
            for seed in range(4):
                device = Device(places, drawn_couplings(seed, places))
                circuit = Circuit(places, drawn_gates(seed, places, 30))
                self.assert_compiled(device, circuit, search=seed % 2 == 0, restore=seed < 2)

    def test_macros(self):
        gates = macro_gates("CSWAP", (0, 3, 1)) + macro_gates("CCZ", (3, 1, 2))
        for device in (line_device(4), grid_device(2, 3), small_devices()[10]):
            self.assert_compiled(device, Circuit(4, gates))

    def test_wide_circuits(self):
        """8 qubits on 16 places: the amplitudes are not computed, the rest is tried."""
        device = grid_device(4, 4)
        circuit = Circuit(8, drawn_gates(1, 8, 200))
        self.assert_result(device, Compiler(device).run(circuit), circuit)
        start = drawn_order(5, 16)
        result = Compiler(device, restore=True).run(circuit, start=start)
        self.assert_result(device, result, circuit, start, restore=True)

    def test_given_lists_are_copied(self):
        device = line_device(3)
        circuit = Circuit(3, [("CX", (0, 2)), ("T", (1,)), ("T", (1,))])
        passes, start = ["fold"], [2, 1, 0]
        compiler = Compiler(device, passes=passes, rounds=1)
        passes.append("nothing")
        passes[0] = "nothing"
        result = compiler.run(circuit, start=start)
        start[0] = 7
        circuit.add("H", 0)
        self.assertEqual(result.start, [2, 1, 0])
        wanted = Circuit(3, [("CX", (0, 2)), ("T", (1,)), ("T", (1,))])
        self.assert_result(device, result, wanted, [2, 1, 0], passes=["fold"], rounds=1)
        again = compiler.run(wanted, start=[2, 1, 0])
        result.start.append("more")
        result.circuit.add("X", 0)
        self.assert_result(device, again, wanted, [2, 1, 0], passes=["fold"], rounds=1)

    def test_attributes_are_set(self):
        result = Compiler(line_device(2)).run(Circuit(1))
        for name in ("circuit", "start", "end", "swaps", "turns"):
            self.assertIn(name, vars(result))
        for name in ("done", "last", "busy"):
            self.assertIn(name, vars(Compiler(line_device(2))))


class RunTextTest(CompilerCase):
    def test_texts(self):
        text = "qubits 3\n# a loop\ndefine f 2\nH 0\nCX 0 1\nT 1\nend\nrepeat 3\ncall f 2 0\nend\nW\n"
        gates = [("H", (2,)), ("CX", (2, 0)), ("T", (0,))] * 3 + [W]
        for device in (line_device(3), grid_device(2, 2)):
            compiler = Compiler(device, restore=True)
            result = compiler.run_text(text)
            self.assert_result(device, result, Circuit(3, gates), restore=True)
            self.assert_carried(result.start, result.end, result.circuit.gates, gates, result.turns)
            self.assertEqual((compiler.done, compiler.busy), (1, False))
            self.assertIs(compiler.last, result)

    def test_errors(self):
        compiler = Compiler(line_device(3))
        compiler.run_text("qubits 2\nCX 0 1\n")
        last = compiler.last
        for text, line in (("", 1), ("qubits 2\nCX 0 2\n", 2), ("qubits 2\nH 0\nrepeat 2\nH 1\n", 3)):
            with self.assertRaises(InvalidText) as caught:
                compiler.run_text(text)
            self.assertEqual(caught.exception.line, line)
        self.assert_error(TooLarge, compiler.run_text, "qubits 1\nrepeat 5001\nH 0\nend\n")
        self.assert_error(SizeMismatch, compiler.run_text, "qubits 4\nH 0\n")
        self.assertEqual((compiler.done, compiler.busy), (1, False))
        self.assertIs(compiler.last, last)


class WatchingDevice(Device):
    """A device that notes whether its compiler is busy, and raises errors if it is told to."""

    def __init__(self, places, couplings):
        Device.__init__(self, places, couplings)
        self.compiler = None
        self.error = None
        self.noted = []

    def linked(self, a, b):
        if self.compiler is not None:
            self.noted.append((self.compiler.busy, self.compiler.done))
        if self.error is not None:
            raise self.error
        return Device.linked(self, a, b)


class StateTest(CompilerCase):
    def test_before_and_after(self):
        compiler = Compiler(line_device(3))
        self.assertEqual((compiler.done, compiler.last), (0, None))
        self.assertIs(compiler.busy, False)
        for count in range(1, 4):
            result = compiler.run(Circuit(count, drawn_gates(count, count, 10)))
            self.assertEqual(compiler.done, count)
            self.assertIs(compiler.last, result)
            self.assertIs(compiler.busy, False)

    def test_busy_while_compiling(self):
        device = WatchingDevice(3, [(0, 1), (1, 2)])
        device.compiler = Compiler(device)
        for count in range(3):
            device.noted = []
            device.compiler.run(Circuit(2, [("CX", (0, 1))]))
            self.assertEqual(set(device.noted), {(True, count)})
            self.assertIs(device.compiler.busy, False)

    def test_errors_while_compiling(self):
        """Any error leaves the numbers as they were, and the compiler can be asked again."""
        device = WatchingDevice(3, [(0, 1), (1, 2)])
        compiler = Compiler(device)
        device.compiler = compiler
        last = compiler.run(Circuit(2, [("CX", (0, 1))]))
        for error in (TooLarge("for the test"), KeyError("for the test"), RuntimeError("x")):
            device.error = error
            with self.assertRaises(type(error)):
                compiler.run(Circuit(2, [("CX", (0, 1))]))
            self.assertEqual(compiler.done, 1)
            self.assertIs(compiler.last, last)
            self.assertIs(compiler.busy, False)
        device.error = None
        again = compiler.run(Circuit(3, [("CX", (0, 2))]))
        self.assertEqual(compiler.done, 2)
        self.assertIs(compiler.last, again)

    def test_wrong_sizes(self):
        compiler = Compiler(line_device(3))
        last = compiler.run(Circuit(2, [("CX", (0, 1))]))
        cases = [(Circuit(4), None), (Circuit(9), [0, 1, 2]), (Circuit(4), [0, 1, 2, 3])]
        cases += [(Circuit(2, [("H", (1,))]), order) for order in NO_ORDERS]
        cases += [(Circuit(2), order) for order in ([], [0], [0, 1], [0, 1, 2, 3])]
        for circuit, start in cases:
            given = (circuit.gates, None if start is None else list(start))
            with self.assertRaises(SizeMismatch) as caught:
                compiler.run(circuit, start=start)
            self.assertIs(type(caught.exception), SizeMismatch)
            self.assertEqual((circuit.gates, start), given)
            self.assertEqual(compiler.done, 1)
            self.assertIs(compiler.last, last)
            self.assertIs(compiler.busy, False)
        compiler.run(Circuit(3))
        self.assertEqual(compiler.done, 2)

    def test_unknown_passes(self):
        for passes in (["x"], ("cancel", "Fold"), [*PASSES, ""]):
            for rounds in (0, 2):
                with self.assertRaises(UnknownPass) as caught:
                    Compiler(line_device(2), passes=passes, rounds=rounds)
                self.assertIs(type(caught.exception), UnknownPass)


class AuditTest(CompilerCase):
    def test_circuits_without_t_gates(self):
        """The audit is never open then: it is equal for the compiled circuit only."""
        for device in small_devices()[1:] + wide_devices()[:1]:
            for seed in range(3):
                width = min(device.places, 2 + seed)
                circuit = Circuit(width, drawn_gates(seed, width, 30, CLIFFORD_KINDS))
                start = drawn_order(seed, device.places)
                result = Compiler(device).run(circuit, start=start)
                self.assertEqual(
                    audit_compiled(result, circuit), ("equal", (8 - result.turns) % 8))
                circuit.add("S", width - 1)
                self.assertEqual(audit_compiled(result, circuit), ("unequal", None))

    def test_turns_and_phases(self):
        for turns in range(8):
            for kind in ("Z", "Y", "H"):
                circuit = Circuit(2, [(kind, (1,))] + [W] * turns)
                result = Compiler(line_device(3)).run(circuit)
                self.assertEqual(self.assert_audit_of(result, circuit)[0], "equal")
                # Another phase of the circuit changes that of the audit.
                circuit.add("W")
                self.assertEqual(
                    audit_compiled(result, circuit), ("equal", (7 - result.turns) % 8))

    def test_plain_compilation_of_drawn_gates(self):
        """Without passes, the audit of circuits with T gates is equal."""
        for device in (line_device(5), grid_device(2, 3)):
            for seed in range(4):
                circuit = Circuit(4, drawn_gates(seed, 4, 30))
                for restore in (False, True):
                    compiler = Compiler(device, passes=[], restore=restore)
                    result = compiler.run(circuit)
                    self.assertEqual(self.assert_audit_of(result, circuit)[0], "equal")

    def test_results_that_are_wrong(self):
        """The gates, the start and the end order all count."""
        device = line_device(3)
        circuit = Circuit(3, [("CX", (0, 2)), ("T", (0,)), ("H", (1,))])
        for change in ("circuit", "start", "end"):
            result = Compiler(device).run(circuit)
            self.assertEqual(self.assert_audit_of(result, circuit)[0], "equal")
            if change == "circuit":
                result.circuit.add("X", 0)
            elif change == "start":
                result.start[0], result.start[1] = result.start[1], result.start[0]
            else:
                result.end[1], result.end[2] = result.end[2], result.end[1]
            self.assertEqual(audit_compiled(result, circuit), ("unequal", None))

    def test_wide_devices(self):
        device = grid_device(4, 4)
        circuit = Circuit(8, drawn_gates(2, 8, 120, CLIFFORD_KINDS))
        result = Compiler(device).run(circuit, start=drawn_order(1, 16))
        self.assertEqual(audit_compiled(result, circuit), ("equal", (8 - result.turns) % 8))


if __name__ == "__main__":
    unittest.main()
