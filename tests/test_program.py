"""Device programs, writing and reading them (points 75 and 76)."""

import unittest

from phasor.circuit import Circuit
from phasor.compiler import Compiler
from phasor.device import Device, grid_device, line_device
from phasor.errors import InvalidText
from phasor.program import Program, read_program, write_program
from tests.cases import GatesCase
from tests.devices import drawn_order, small_devices, wide_devices
from tests.plain import drawn_gates
from tests.test_timing import plain_steps

HEAD = "places 3\nstart 0 1 2\nend 2 0 1\nturns 5\n"


def plain_text(result):
    """The text of a result, put together line by line."""
    gates = result.circuit.gates
    numbers = plain_steps(gates)
    text = f"places {result.circuit.width}\n"
    text += "start" + "".join(f" {place}" for place in result.start) + "\n"
    text += "end" + "".join(f" {place}" for place in result.end) + "\n"
    text += f"turns {result.turns}\n"
    for step in range(1, max(numbers, default=0) + 1):
        text += "step\n"
        for (kind, qubits), number in zip(gates, numbers):
            if number == step:
                text += kind + "".join(f" {qubit}" for qubit in qubits) + "\n"
    return text


def plain_groups(result):
    """The gates of each time step."""
    gates = result.circuit.gates
    numbers = plain_steps(gates)
    return [[gate for gate, number in zip(gates, numbers) if number == step]
            for step in range(1, max(numbers, default=0) + 1)]


class ProgramCase(GatesCase):
    def assert_program(self, program, start, end, turns, groups):
        self.assertIs(type(program), Program)
        for name, wanted in (("start", start), ("end", end), ("turns", turns)):
            self.assertEqual(vars(program)[name], wanted)
            self.assertIs(type(vars(program)[name]), type(wanted))
        steps = program.steps
        self.assertIs(type(steps), list)
        self.assertTrue(all(type(group) is list for group in steps))
        self.assertEqual(steps, groups)
        for group in steps:
            self.assert_gates(len(start), group)

    def assert_read(self, text, device, start, end, turns, groups):
        program = read_program(text, device)
        self.assert_program(program, start, end, turns, groups)
        # The newline at the end may be missing.
        self.assertTrue(text.endswith("\n"))
        self.assert_program(read_program(text[:-1], device), start, end, turns, groups)
        return program

    def assert_invalid(self, line, text, device=None):
        with self.assertRaises(InvalidText) as caught:
            read_program(text, line_device(3) if device is None else device)
        self.assertIs(type(caught.exception), InvalidText)
        self.assertEqual(caught.exception.line, line, text)


class WriteTest(ProgramCase):
    def assert_written(self, device, circuit, **options):
        result = Compiler(device, **options).run(circuit, start=drawn_order(3, device.places))
        text = write_program(result)
        self.assertIs(type(text), str)
        self.assertEqual(text, plain_text(result))
        self.assert_read(
            text, device, result.start, result.end, result.turns, plain_groups(result))
        self.assertEqual(write_program(result), text)

    def test_all_devices(self):
        for device in small_devices() + wide_devices() + [grid_device(4, 4)]:
            for width in {1, min(3, device.places), min(8, device.places)}:
                for restore in (False, True):
                    self.assert_written(
                        device, Circuit(width, drawn_gates(width, width, 30)), restore=restore)

    def test_no_steps(self):
        result = Compiler(line_device(2)).run(Circuit(1, [("W", ())] * 3), start=[1, 0])
        text = "places 2\nstart 1 0\nend 1 0\nturns 3\n"
        self.assertEqual(write_program(result), text)
        self.assert_read(text, line_device(2), [1, 0], [1, 0], 3, [])

    def test_places_with_several_digits(self):
        device = line_device(12)
        self.assert_written(device, Circuit(12, drawn_gates(4, 12, 40)))

    def test_known_text(self):
        gates = [("CX", (0, 1)), ("T", (2,)), ("H", (0,)), ("CX", (2, 1)), ("W", ())]
        compiler = Compiler(Device(3, [(0, 1), (2, 1)]), passes=[])
        result = compiler.run(Circuit(3, gates), start=[0, 1, 2])
        self.assertEqual(
            write_program(result),
            "places 3\nstart 0 1 2\nend 0 1 2\nturns 1\nstep\nCX 0 1\nT 2\nstep\nH 0\nCX 2 1\n")


class ReadTest(ProgramCase):
    def test_all_kinds(self):
        kinds = ("H", "X", "Y", "Z", "S", "SDG", "T", "TDG")
        for kind in kinds:
            self.assert_read(
                HEAD + f"step\n{kind} 2\n", line_device(3), [0, 1, 2], [2, 0, 1], 5,
                [[(kind, (2,))]])
        self.assert_read(
            HEAD + "step\nCX 1 2\nH 0\nstep\nCX 0 1\n", line_device(3), [0, 1, 2], [2, 0, 1], 5,
            [[("CX", (1, 2)), ("H", (0,))], [("CX", (0, 1))]])

    def test_turns(self):
        for turns in range(8):
            self.assert_read(
                f"places 1\nstart 0\nend 0\nturns {turns}\n", line_device(1), [0], [0], turns, [])

    def test_no_steps(self):
        self.assert_read(HEAD, line_device(3), [0, 1, 2], [2, 0, 1], 5, [])

    def test_gates_in_later_steps(self):
        """A gate may stand in a later step than it must, in any order in its step."""
        self.assert_read(
            HEAD + "step\nH 0\nstep\nT 1\nstep\nS 1\nstep\nX 2\nH 0\n", line_device(3),
            [0, 1, 2], [2, 0, 1], 5,
            [[("H", (0,))], [("T", (1,))], [("S", (1,))], [("X", (2,)), ("H", (0,))]])

    def test_many_places(self):
        order = drawn_order(3, 64)
        words = " ".join(str(place) for place in order)
        text = f"places 64\nstart {words}\nend {words}\nturns 0\nstep\nCX 62 63\nH 0\n"
        self.assert_read(
            text, line_device(64), order, order, 0, [[("CX", (62, 63)), ("H", (0,))]])
        words += " 64"
        text = f"places 65\nstart {words}\nend {words}\nturns 0\n"
        self.assert_invalid(1, text, line_device(65))

    def test_lists_are_copied(self):
        program = read_program(HEAD + "step\nH 0\n", line_device(3))
        program.steps.append([])
        program.steps[0].append(("X", (1,)))
        steps = program.steps
        steps[0][0] = ("X", (2,))
        self.assert_program(program, [0, 1, 2], [2, 0, 1], 5, [[("H", (0,))]])


class InvalidProgramTest(ProgramCase):
    def test_texts_that_end_too_early(self):
        lines = (HEAD + "step\nH 0\nstep\nCX 0 1\nT 2\n").split("\n")[:-1]
        for count in (0, 1, 2, 3, 5, 7):
            text = "\n".join(lines[:count])
            self.assert_invalid(count + 1, text)
            if count:
                self.assert_invalid(count + 1, text + "\n")
        for count in (4, 6, 8, 9):
            read_program("\n".join(lines[:count]), line_device(3))
        self.assert_invalid(1, "")

    def test_number_of_places(self):
        for places in (0, 1, 2, 4, 64, 65, 999999):
            self.assert_invalid(1, HEAD.replace("places 3", f"places {places}"))
        for device in (line_device(2), line_device(4)):
            self.assert_invalid(1, HEAD, device)

    def test_forms_of_the_first_lines(self):
        lines = HEAD.split("\n")[:-1]
        wrong = {
            1: ["", "places", "places 3 3", "place 3", "places  3", " places 3", "places 3 ",
                "places 03", "places +3", "places -3", "places three", "Places 3", "3", "# 3",
                "qubits 3", "places 1000003", "step", "places 3.", "start 0 1 2"],
            2: ["", "start", "start 0 1", "start 0 1 2 3", "start 0 1 1", "start 0 1 3",
                "start 1 2 3", "start 0 1 -1", "start 0  1 2", "start 0 1 2 ", "end 0 1 2",
                "start 00 1 2", "start a b c", "start 0,1,2", "Start 0 1 2", "0 1 2", "step",
                "start 0 1 1000002", "places 3", "# start", "start 0 1 2 #"],
            3: ["", "end", "end 0 1", "end 0 1 2 3", "end 2 2 2", "end 0 1 3", "start 0 1 2",
                "END 0 1 2", "end  0 1 2", "end 0 1 02", "step", "turns 5", "H 0"],
            4: ["", "turns", "turns 8", "turns -1", "turns 5 5", "turns 05", "turns five",
                "turn 5", "turns 5 ", "turns  5", "turns 10", "step", "H 0", "end 2 0 1", "W"],
        }
        for number, others in wrong.items():
            for other in others:
                text = "\n".join(lines[:number - 1] + [other] + lines[number:]) + "\n"
                # An empty last line is no line.
                if not (number == 4 and other == ""):
                    self.assert_invalid(number, text)
                self.assert_invalid(number, text + "step\nH 0\n")

    def test_the_first_wrong_line_counts(self):
        self.assert_invalid(2, "places 3\nstart 0 0 0\nend 1\nturns 9\n")
        self.assert_invalid(1, "places 2\nstart 0 0 0\n")
        self.assert_invalid(5, HEAD + "H 0\nstep\n")
        self.assert_invalid(6, HEAD + "step\nW\nstep\nstep\n")

    def test_empty_lines(self):
        lines = (HEAD + "step\nH 0\nCX 1 2\nstep\nT 1").split("\n")
        for at in range(len(lines) + 1):
            text = "\n".join(lines[:at] + [""] + lines[at:]) + "\n"
            self.assert_invalid(at + 1, text)
        self.assert_invalid(1, "\n")
        self.assert_invalid(5, HEAD + "\n")

    def test_gates_before_the_first_step(self):
        for line in ("H 0", "CX 0 1", "W", "end", "turns 5"):
            self.assert_invalid(5, HEAD + line + "\n")
            self.assert_invalid(5, HEAD + line + "\nstep\nH 0\n")

    def test_a_step_directly_after_a_step(self):
        self.assert_invalid(6, HEAD + "step\nstep\nH 0\n")
        self.assert_invalid(6, HEAD + "step\nstep")
        self.assert_invalid(8, HEAD + "step\nH 0\nstep\nstep\nH 0\n")

    def test_a_step_at_the_end(self):
        self.assert_invalid(6, HEAD + "step")
        self.assert_invalid(6, HEAD + "step\n")
        self.assert_invalid(8, HEAD + "step\nH 0\nstep\n")

    def test_places_used_twice(self):
        for first, second in (("H 0", "T 0"), ("H 1", "CX 0 1"), ("CX 0 1", "X 0"),
                              ("CX 0 1", "CX 1 2"), ("CX 0 1", "CX 0 1")):
            self.assert_invalid(7, HEAD + f"step\n{first}\n{second}\n")
            self.assert_invalid(10, HEAD + f"step\nH 0\nH 1\nstep\n{first}\n{second}\nstep\n")
            read_program(HEAD + f"step\n{first}\nstep\n{second}\n", line_device(3))

    def test_gates_that_are_not_native(self):
        device = Device(3, [(0, 1), (2, 1), (1, 2)])
        for line in ("CX 1 0", "CX 0 2", "CX 2 0", "CX 0 0", "CZ 0 1", "SWAP 0 1", "W", "H 3",
                     "CX 2 3", "H", "H 0 1", "CX 0", "CX 0 1 2", "W 0", "CCX 0 1 2", "CS 0 1",
                     "h 0", "H -1", "H 00", "H  0", " H 0", "H 0 ", "# H 0", "repeat 2", "end",
                     "step 1", " step", "step ", "Step", "turns 5", "qubits 3", "", "H a", "0",
                     "call f 0", "H 0\r", "places 3"):
            self.assert_invalid(6, HEAD + f"step\n{line}\nT 2\n", device)
            self.assert_invalid(9, HEAD + f"step\nX 0\nT 1\nstep\n{line}\nT 2\n", device)
        read_program(HEAD + "step\nCX 2 1\nstep\nCX 1 2\nstep\nCX 0 1\n", device)


if __name__ == "__main__":
    unittest.main()
