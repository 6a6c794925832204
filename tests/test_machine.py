"""The machine that executes a program step by step (points 77 and 78)."""

import itertools
import unittest

from phasor.circuit import Circuit
from phasor.compiler import Compiler
from phasor.device import Device, grid_device, line_device
from phasor.errors import NotReady, SizeMismatch
from phasor.machine import Machine
from phasor.program import read_program, write_program
from phasor.reader import read_circuit
from tests.cases import GatesCase, relabeled
from tests.devices import drawn_order, small_devices, wide_devices
from tests.plain import (
    P_ONE, P_ZERO, drawn_gates, is_lowest, p_turn, plain_columns, sparse_columns, sparse_step,
    value,
)


def bits_of(index, count):
    return [(index >> qubit) & 1 for qubit in range(count)]


class MachineCase(GatesCase):
    def assert_amplitudes(self, machine, places, wanted):
        """All result amplitudes. The wanted ones stand in a dict without those that are 0."""
        for index in range(2 ** places):
            values = bits_of(index, places)
            found = machine.amplitude(values)
            self.assertEqual(values, bits_of(index, places))
            self.assertTrue(is_lowest(found))
            self.assertEqual(value(found), wanted.get(index, P_ZERO))

    def assert_steps(self, machine, program, start, places):
        """The result amplitudes before the first and after each step."""
        state = {relabeled(program.start, start): P_ONE}
        roots = 0
        for done, group in enumerate([[]] + program.steps):
            if done > 0:
                self.assertIs(machine.step(), True)
            self.assertEqual(machine.time, done)
            for gate in group:
                state = sparse_step(state, gate)
                roots += gate[0] == "H"
            wanted = {}
            for index in range(2 ** places):
                amplitude = state.get(relabeled(program.end, index))
                if amplitude is not None:
                    wanted[index] = p_turn(value((amplitude, roots)), program.turns)
            self.assert_amplitudes(machine, places, wanted)
        self.assertIs(machine.step(), False)
        self.assertIs(machine.step(), False)
        self.assertEqual(machine.time, len(program.steps))
        self.assert_amplitudes(machine, places, wanted)
        self.assertEqual(machine.run(), 0)

    def program_of(self, device, circuit, start=None, **options):
        result = Compiler(device, **options).run(circuit, start=start)
        return read_program(write_program(result), device)


class StepTest(MachineCase):
    def test_each_step_of_drawn_circuits(self):
        for device in small_devices():
            width = min(device.places, 3)
            circuit = Circuit(width, drawn_gates(device.places, width, 20))
            program = self.program_of(device, circuit, drawn_order(2, device.places))
            for start in (0, 1, 2 ** device.places - 1):
                machine = Machine(device)
                values = bits_of(start, device.places)
                self.assertIsNone(machine.load(program, values))
                self.assertEqual(values, bits_of(start, device.places))
                self.assert_steps(machine, program, start, device.places)

    def test_all_kinds(self):
        lines = ["H 0", "T 1", "CX 0 1", "Y 0", "S 1", "CX 1 2", "H 1", "SDG 2", "TDG 0", "X 2",
                 "Z 1", "H 2", "CX 0 1", "Y 2", "T 0", "H 0"]
        text = "places 3\nstart 2 0 1\nend 1 2 0\nturns 3\nstep\n" + "\nstep\n".join(lines)
        program = read_program(text, line_device(3))
        for start in range(8):
            machine = Machine(line_device(3))
            machine.load(program, bits_of(start, 3))
            self.assert_steps(machine, program, start, 3)

    def test_steps_later_than_they_must_be(self):
        text = "places 2\nstart 0 1\nend 1 0\nturns 7\nstep\nH 0\nstep\nX 1\nstep\nT 1\nH 0\n"
        program = read_program(text, line_device(2))
        machine = Machine(line_device(2))
        machine.load(program, [1, 1])
        self.assert_steps(machine, program, 3, 2)

    def test_run(self):
        device = line_device(3)
        program = self.program_of(device, Circuit(3, drawn_gates(1, 3, 30)))
        many = len(program.steps)
        self.assertGreater(many, 3)
        for first in (0, 1, 3, many):
            machine = Machine(device)
            machine.load(program, [0, 1, 0])
            for _ in range(first):
                machine.step()
            self.assertEqual(machine.run(), many - first)
            self.assertEqual(machine.time, many)
            self.assertEqual(machine.run(), 0)
            self.assertIs(machine.step(), False)
            self.assertEqual(machine.time, many)

    def test_program_without_steps(self):
        program = read_program("places 2\nstart 1 0\nend 0 1\nturns 6\n", line_device(2))
        for start in range(4):
            machine = Machine(line_device(2))
            machine.load(program, bits_of(start, 2))
            self.assert_steps(machine, program, start, 2)
            self.assertEqual((machine.run(), machine.time), (0, 0))

    def test_loaded_a_second_time(self):
        """Also in the midst of a program, and with another one."""
        device = line_device(2)
        first = self.program_of(device, Circuit(2, [("H", (0,)), ("CX", (1, 0)), ("T", (0,))]))
        second = self.program_of(device, Circuit(2, [("X", (0,)), ("W", ()), ("H", (1,))]), [1, 0])
        machine = Machine(device)
        for done in range(3):
            for program, start in ((first, 1), (second, 2), (first, 3), (second, 0)):
                machine.load(program, bits_of(start, 2))
                self.assert_steps(machine, program, start, 2)
                machine.load(program, bits_of(start, 2))
                for _ in range(done):
                    machine.step()

    def test_what_is_loaded_is_copied(self):
        device = line_device(2)
        program = self.program_of(device, Circuit(2, [("H", (0,)), ("CX", (1, 0))]))
        again = self.program_of(device, Circuit(2, [("H", (0,)), ("CX", (1, 0))]))
        values = [1, 0]
        machine = Machine(device)
        machine.load(program, values)
        values[0] = 0
        program.start[0] = 7
        program.end.reverse()
        program.turns = 5
        self.assert_steps(machine, again, 1, 2)

    def test_two_machines(self):
        device = line_device(2)
        program = self.program_of(device, Circuit(2, [("H", (0,)), ("CX", (0, 1))]))
        first, second = Machine(device), Machine(device)
        first.load(program, [0, 0])
        second.load(program, [1, 1])
        first.run()
        self.assertEqual((first.time, second.time), (len(program.steps), 0))
        self.assert_steps(second, program, 3, 2)

    def test_long_programs(self):
        """Many gates H: the amplitudes stay exact."""
        program = read_program(
            "places 1\nstart 0\nend 0\nturns 0\n" + "step\nH 0\nstep\nT 0\n" * 300, line_device(1))
        machine = Machine(line_device(1))
        for start in (0, 1):
            machine.load(program, [start])
            self.assertEqual(machine.run(), 600)
            column = plain_columns(1, [("H", (0,)), ("T", (0,))] * 300)[start]
            self.assert_amplitudes(machine, 1, dict(enumerate(column)))


class ErrorsTest(MachineCase):
    def test_not_ready(self):
        for device in (line_device(1), grid_device(2, 2)):
            machine = Machine(device)
            for _ in range(2):
                self.assertEqual(vars(machine)["time"], 0)
                self.assert_error(NotReady, machine.step)
                self.assert_error(NotReady, machine.run)
                for values in ([0] * device.places, [], [0] * 9):
                    self.assert_error(NotReady, machine.amplitude, values)
                # A program with too few values is not loaded.
                program = self.program_of(device, Circuit(1, [("H", (0,))]))
                self.assert_error(SizeMismatch, machine.load, program, [0] * 7)

    def test_values_that_do_not_fit(self):
        device = line_device(3)
        program = self.program_of(device, Circuit(3, [("H", (0,)), ("CX", (0, 2)), ("T", (2,))]))
        other = self.program_of(device, Circuit(3, [("X", (0,))]))
        machine = Machine(device)
        machine.load(program, [1, 0, 1])
        machine.step()
        for values in ([], [0], [0, 0], [0, 0, 0, 0], [1] * 9):
            self.assert_error(SizeMismatch, machine.load, other, values)
            self.assert_error(SizeMismatch, machine.amplitude, values)
        # The first program goes on where it was.
        self.assertEqual(machine.time, 1)
        self.assertEqual(machine.run(), len(program.steps) - 1)
        fresh = Machine(device)
        fresh.load(program, [1, 0, 1])
        fresh.run()
        for index in range(8):
            values = bits_of(index, 3)
            self.assertEqual(machine.amplitude(values), fresh.amplitude(values))


class FromTextToAmplitudeTest(MachineCase):
    """Point 78: the whole way, from the text of a circuit to the amplitudes of the machine."""

    def assert_way(self, device, text, gates, starts=None, start=None, **options):
        circuit = read_circuit(text)
        self.assertEqual(circuit.gates, gates)
        compiler = Compiler(device, **options)
        if start is None:
            result = compiler.run_text(text)
        else:
            result = compiler.run(circuit, start=start)
        program = read_program(write_program(result), device)
        columns = sparse_columns(device.places, gates)
        machine = Machine(device)
        for index in range(len(columns)) if starts is None else starts:
            machine.load(program, bits_of(index, device.places))
            self.assertEqual(machine.run(), len(program.steps))
            self.assert_amplitudes(machine, device.places, columns[index])

    def text_of(self, width, gates):
        lines = [f"qubits {width}"]
        lines += [" ".join([kind] + [str(qubit) for qubit in qubits]) for kind, qubits in gates]
        return "\n".join(lines)

    def test_drawn_circuits(self):
        for device in small_devices():
            for width in range(1, device.places + 1):
                gates = drawn_gates(width + 3, width, 25)
                self.assert_way(device, self.text_of(width, gates), gates)
                self.assert_way(
                    device, self.text_of(width, gates), gates, restore=True, search=True,
                    start=drawn_order(width, device.places))

    def test_wide_devices(self):
        for device in wide_devices()[:2]:
            gates = drawn_gates(4, 4, 30)
            self.assert_way(device, self.text_of(4, gates), gates, starts=(0, 5, 40, 63))

    def test_options(self):
        gates = drawn_gates(9, 3, 30)
        for rounds, passes in itertools.product((0, 1), ([], ["fold", "layers"])):
            self.assert_way(
                Device(4, [(1, 0), (1, 2), (3, 2)]), self.text_of(3, gates), gates,
                rounds=rounds, passes=passes)

    def test_text_with_definitions(self):
        text = ("# adds one\nqubits 3\ndefine add 3\nCCX 0 1 2\nCX 0 1\nX 0\nend\n\n"
                "repeat 3\ncall add 2 1 0\nend\nW\nT 1\n")
        circuit = read_circuit(text)
        for device in (line_device(3), grid_device(2, 2)):
            self.assert_way(device, text, circuit.gates)
        # Three times one added to 3 is 6: qubit 2 is the lowest digit.
        result = Compiler(line_device(3)).run_text(text)
        machine = Machine(line_device(3))
        machine.load(read_program(write_program(result), line_device(3)), [0, 1, 1])
        machine.run()
        found = machine.amplitude([1, 1, 0])
        # w for W and w for T 1.
        self.assertEqual(found, ((0, 0, 1, 0), 0))

    def test_large_devices(self):
        """16 places, of which 8 hold the qubits of a circuit."""
        gates = drawn_gates(2, 8, 60)
        device = grid_device(4, 4)
        result = Compiler(device).run(Circuit(8, gates))
        machine = Machine(device)
        machine.load(read_program(write_program(result), device), bits_of(77, 8) + [0, 1] * 4)
        machine.run()
        state = {77: P_ONE}
        for gate in gates:
            state = sparse_step(state, gate)
        roots = sum(1 for kind, _ in gates if kind == "H")
        for index in range(256):
            found = value(machine.amplitude(bits_of(index, 8) + [0, 1] * 4))
            self.assertEqual(found, value((state.get(index, P_ZERO), roots)))
        self.assertEqual(machine.amplitude([0] * 16), ((0, 0, 0, 0), 0))


if __name__ == "__main__":
    unittest.main()
