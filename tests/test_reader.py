"""The text form of circuits (points 11, 12 and 13)."""

import unittest

from phasor.circuit import Circuit
from phasor.errors import InvalidText, TooLarge
from phasor.reader import MAX_GATES, read_circuit, write_circuit
from tests.plain import all_gates, drawn_gates
from tests.test_macros import SIZES, listed

T0 = ("T", (0,))
H0 = ("H", (0,))


def text_of(*lines):
    return "".join(line + "\n" for line in lines)


class ReaderCase(unittest.TestCase):
    def assert_gates(self, lines, gates, width=None):
        circuit = read_circuit(text_of(*lines))
        self.assertIs(type(circuit), Circuit)
        self.assertEqual(circuit.gates, gates)
        if width is not None:
            self.assertEqual(circuit.width, width)

    def assert_invalid(self, text, line):
        with self.assertRaises(InvalidText) as caught:
            read_circuit(text)
        self.assertEqual(caught.exception.line, line, repr(text[:200]))

    def assert_last_invalid(self, *lines):
        """The last line is wrong, wherever more lines stand behind it."""
        self.assert_invalid(text_of(*lines), len(lines))
        self.assert_invalid("\n".join(lines), len(lines))
        self.assert_invalid(text_of(*lines, "nonsense", "", "end"), len(lines))
        skipped = ("", "# nothing", "#")
        self.assert_invalid(text_of(*skipped, *lines), len(lines) + 3)

    def assert_too_large(self, *lines):
        with self.assertRaises(TooLarge):
            read_circuit(text_of(*lines))


class LinesTest(ReaderCase):
    def test_no_lines(self):
        self.assert_invalid("", 1)

    def test_only_skipped_lines(self):
        self.assert_invalid("\n", 2)
        self.assert_invalid("\n\n\n", 4)
        self.assert_invalid("#", 2)
        self.assert_invalid("#\n", 2)
        self.assert_invalid("# qubits 1\n\n#qubits 2", 4)

    def test_last_newline(self):
        for text in ("qubits 1\nT 0", "qubits 1\nT 0\n", "qubits 1\nT 0\n\n", "qubits 1\nT 0\n#"):
            self.assertEqual(read_circuit(text).gates, [T0])
        self.assertEqual(read_circuit("qubits 3").gates, [])
        self.assertEqual(read_circuit("qubits 3\n").width, 3)

    def test_skipped_lines_anywhere(self):
        lines = ("", "#", "# repeat", "qubits 2", "", "define f 1", "#end", "", "T 0",
                 "#T 0", "end", "", "repeat 2", "", "# x", "call f 1", "", "end", "#", "")
        self.assert_gates(lines, [("T", (1,))] * 2, 2)

    def test_skipped_lines_are_counted(self):
        self.assert_invalid("\n#\nqubits 1\n\n#\nH 1\n", 6)
        self.assert_invalid("\n\nqubits 1\n\nrepeat 2\n\nH 0\n\n", 5)

    def test_spaces(self):
        for line in (" T 0", "T  0", "T 0 ", " ", "  ", "T", "T ", " #", " # T", "T\t0", "\tT 0",
                     "T 0\r", "T 0\t", "W ", "W  ", " W", "end ", "CX 0  1", "CX  0 1", "CX 0 1 ",
                     "T\u00a00", "T 0\x0b", "T 0\x0c", "\x0c", "T 0\x85", "T 0\u2028", "\r"):
            self.assert_last_invalid("qubits 2", line)
        for line in ("qubits  1", " qubits 1", "qubits 1 ", "qubits 1\r", "qubits\t1"):
            self.assert_last_invalid(line)

    def test_numbers(self):
        for word in ("00", "01", "+0", "-0", "-1", "0x0", "1_0", "0.", "", "a", "\u0660", "\u00b2",
                     "1000000", "0000000", "000001", "9999999", "1e1", "One", "#1"):
            self.assert_last_invalid("qubits 64", f"T {word}")
            self.assert_last_invalid("qubits 64", f"repeat {word}")
            self.assert_last_invalid("qubits 64", f"define f {word}")
            self.assert_last_invalid(f"qubits {word}")
        for word in ("0", "1", "9", "10", "99999", "100000", "999999"):
            self.assert_gates(("qubits 1", f"repeat {word}", "end"), [])
        self.assert_last_invalid("qubits 64", "T 999999")


class QubitsTest(ReaderCase):
    def test_widths(self):
        for width in (1, 2, 63, 64):
            self.assert_gates((f"qubits {width}", f"H {width - 1}"), [("H", (width - 1,))], width)
            self.assert_last_invalid(f"qubits {width}", f"H {width}")

    def test_wrong_widths(self):
        for words in ("", " 0", " 65", " 100", " 999999", " 1000000", " 1 1", " x"):
            self.assert_last_invalid("qubits" + words)

    def test_must_be_first(self):
        for line in ("T 0", "repeat 1", "repeat 0", "end", "define f 1", "call f 0", "W",
                     "CS 0 1", "Qubits 1", "nothing", "qubit 1", " "):
            self.assert_last_invalid(line)

    def test_no_second_one(self):
        self.assert_last_invalid("qubits 1", "qubits 1")
        self.assert_last_invalid("qubits 2", "T 0", "", "qubits 2")
        self.assert_last_invalid("qubits 2", "repeat 2", "qubits 2")
        self.assert_last_invalid("qubits 2", "define f 2", "qubits 2")


class GatesTest(ReaderCase):
    def test_every_gate(self):
        gates = all_gates(3)
        lines = [" ".join([kind] + [str(q) for q in qubits]) for kind, qubits in gates]
        self.assert_gates(["qubits 3"] + lines, gates, 3)

    def test_gates_that_do_not_fit(self):
        for line in ("H", "H 0 1", "H 2", "CX 0", "CX 0 0", "CX 0 2", "CX 2 0", "CX 0 1 1",
                     "CX 0 1 2", "SWAP 1 1", "CZ", "W 0", "TDG", "T 64", "h 0", "cx 0 1",
                     "CNOT 0 1", "I 0", "CXX 0 1", "0", "T0", "T,0", "X#0", "H 0 # comment"):
            self.assert_last_invalid("qubits 2", "H 0", line)

    def test_every_macro(self):
        for kind, size in SIZES.items():
            for qubits in ((0, 1, 2), (3, 1, 0), (2, 3, 1)):
                chosen = qubits[:size]
                line = " ".join([kind] + [str(q) for q in chosen])
                self.assert_gates(("qubits 4", "H 0", line), [H0] + listed(kind, chosen))

    def test_wrong_macros(self):
        for line in ("CS", "CS 0", "CS 0 0", "CS 0 3", "CS 3 0", "CS 0 1 2", "CCZ 0 1",
                     "CCZ 0 1 1", "CCZ 0 1 3", "CCX 0 1 2 2", "CCX 1 1 2", "CSWAP 0 1 x",
                     "CSWAP 64 0 1", "CSDG 0", "CSDG -1 0", "ccx 0 1 2", "CCX"):
            self.assert_last_invalid("qubits 3", line)


class RepeatTest(ReaderCase):
    def test_repeated(self):
        for count in (0, 1, 2, 7, 2499):
            lines = ("qubits 1", "H 0", f"repeat {count}", "T 0", "H 0", "end", "W")
            self.assert_gates(lines, [H0] + [T0, H0] * count + [("W", ())])

    def test_nested(self):
        lines = ("qubits 1", "repeat 2", "H 0", "repeat 3", "T 0", "end", "repeat 0", "X 0", "end",
                 "W", "end")
        self.assert_gates(lines, [H0, T0, T0, T0, ("W", ())] * 2)

    def test_empty_blocks(self):
        self.assert_gates(("qubits 1", "repeat 999999", "end", "T 0"), [T0])
        lines = ["qubits 1"] + ["repeat 999999"] * 50 + ["end"] * 50
        self.assert_gates(lines, [])
        lines = ["qubits 1"] + ["repeat 999999", "repeat 0", "T 0", "end", "end"] * 100 + ["T 0"]
        self.assert_gates(lines, [T0])

    def test_deeply_nested(self):
        count = 20000
        lines = ["qubits 1"] + ["repeat 1"] * count + ["T 0"] + ["end"] * count
        self.assert_gates(lines, [T0])
        lines = ["qubits 1"] + ["repeat 999999"] * count + ["end"] * count
        self.assert_gates(lines, [])

    def test_wrong_lines(self):
        for line in ("repeat", "repeat 1 1", "repeat x", "repeat -1", "repeat 1000000", "Repeat 1",
                     "end 1", "end end", "End"):
            self.assert_last_invalid("qubits 1", "repeat 2", "T 0", line)

    def test_end_without_a_block(self):
        self.assert_last_invalid("qubits 1", "end")
        self.assert_last_invalid("qubits 1", "repeat 2", "end", "end")
        self.assert_last_invalid("qubits 1", "define f 1", "end", "T 0", "end")

    def test_left_open(self):
        self.assert_invalid("qubits 1\nrepeat 2\n", 2)
        self.assert_invalid("qubits 1\nT 0\nrepeat 2\nT 0\nrepeat 0\nend\nT 0", 3)
        self.assert_invalid("qubits 1\nrepeat 2\nT 0\nrepeat 3\nT 0\n", 4)
        self.assert_invalid("qubits 1\ndefine f 1\nT 0\n", 2)
        self.assert_invalid("qubits 1\ndefine f 1\n\nrepeat 2\n", 4)
        self.assert_invalid("qubits 1\n\ndefine f 1\n\nrepeat 2\nend\n#", 3)


class DefineTest(ReaderCase):
    def test_called_on_other_qubits(self):
        lines = ("qubits 5", "define f 3", "CX 0 1", "CX 2 0", "W", "CS 1 2", "end", "call f 4 0 2",
                 "call f 0 1 2")
        wanted = []
        for places in ((4, 0, 2), (0, 1, 2)):
            wanted += [("CX", (places[0], places[1])), ("CX", (places[2], places[0])), ("W", ())]
            wanted += listed("CS", places[1:])
        self.assert_gates(lines, wanted, 5)

    def test_never_called(self):
        self.assert_gates(("qubits 1", "define f 64", "CX 63 0", "end", "T 0"), [T0], 1)

    def test_wider_than_the_circuit(self):
        lines = ("qubits 1", "define f 2", "CX 0 1", "end")
        self.assert_gates(lines, [])
        self.assert_last_invalid(*lines, "call f 0 1")

    def test_fit_to_the_definition(self):
        self.assert_last_invalid("qubits 5", "define f 2", "H 2")
        self.assert_last_invalid("qubits 5", "define f 2", "repeat 2", "H 2")
        self.assert_last_invalid("qubits 5", "define f 2", "CCX 0 1 2")
        self.assert_last_invalid("qubits 5", "define g 1", "end", "define f 2", "call g 2")
        self.assert_last_invalid("qubits 2", "define f 5", "H 4", "end", "H 4")
        self.assert_gates(("qubits 2", "define f 5", "H 4", "end", "H 1"), [("H", (1,))])

    def test_earlier_definitions(self):
        lines = ("qubits 3", "define f 2", "CX 0 1", "end", "define g 3", "call f 2 0", "repeat 2",
                 "call f 1 2", "end", "end", "define h 3", "call g 1 2 0", "call f 0 1", "end",
                 "call h 2 0 1")
        # g: CX 2 0, CX 1 2 twice; h: g on 1 2 0, then CX 0 1; called on 2 0 1.
        g = [("CX", (2, 0)), ("CX", (1, 2)), ("CX", (1, 2))]
        h = [("CX", tuple((1, 2, 0)[q] for q in qubits)) for _, qubits in g] + [("CX", (0, 1))]
        wanted = [("CX", tuple((2, 0, 1)[q] for q in qubits)) for _, qubits in h]
        self.assert_gates(lines, wanted)

    def test_blocks_around_calls(self):
        lines = ("qubits 2", "define f 1", "repeat 3", "T 0", "end", "end", "repeat 2", "call f 1",
                 "end")
        self.assert_gates(lines, [("T", (1,))] * 6)

    def test_empty_definitions(self):
        self.assert_gates(("qubits 1", "define f 1", "end", "repeat 999999", "call f 0", "end"), [])

    def test_names(self):
        for name in ("a", "abcdefghijkl", "zzzzzzzzzzzz", "end", "define", "call", "repeat",
                     "qubits", "w", "cx"):
            lines = ("qubits 1", f"define {name} 1", "T 0", "end", f"call {name} 0")
            self.assert_gates(lines, [T0])
        for name in ("abcdefghijklm", "F", "fF", "f1", "1", "f_", "T", "CX", "f-g", "\u00e9", "",
                     "a" * 100, "W", "#f", "f\u0131"):
            self.assert_last_invalid("qubits 1", f"define {name} 1")
            self.assert_last_invalid("qubits 1", f"call {name} 0")

    def test_wrong_definitions(self):
        for line in ("define", "define g", "define g 0", "define g 65", "define g x", "define 1 g",
                     "define g 1 1", "define g 999999", "define f 1", "define f 2", "Define g 1"):
            self.assert_last_invalid("qubits 1", "define f 1", "end", line)

    def test_not_inside(self):
        self.assert_last_invalid("qubits 1", "repeat 1", "define f 1")
        self.assert_last_invalid("qubits 1", "define f 1", "define g 1")
        self.assert_last_invalid("qubits 1", "define f 1", "repeat 1", "define g 1")
        self.assert_gates(
            ("qubits 1", "repeat 1", "end", "define f 1", "repeat 1", "end", "end",
             "define g 1", "T 0", "end", "call g 0"), [T0])

    def test_wrong_calls(self):
        start = ("qubits 3", "define f 2", "CX 0 1", "end")
        for line in ("call", "call f", "call f 0", "call f 0 0", "call f 0 3", "call f 0 1 2",
                     "call g 0 1", "call f x 1", "call 0 1", "Call f 0 1", "call f 0 01", "f 0 1",
                     "call f -1 0"):
            self.assert_last_invalid(*start, line)

    def test_must_have_ended(self):
        self.assert_last_invalid("qubits 1", "call f 0")
        self.assert_last_invalid("qubits 1", "define f 1", "call f 0")
        self.assert_last_invalid("qubits 1", "define f 1", "repeat 1", "call f 0")
        self.assert_invalid("qubits 1\ncall f 0\ndefine f 1\nend\n", 2)


class SeparateTextsTest(ReaderCase):
    def test_definitions_are_forgotten(self):
        first = ("qubits 1", "define f 1", "T 0", "end", "call f 0")
        self.assert_gates(first, [T0])
        self.assert_gates(first, [T0])
        self.assert_last_invalid("qubits 1", "call f 0")

    def test_blocks_are_forgotten(self):
        self.assert_last_invalid("qubits 1", "repeat 2", "T 1")
        self.assert_last_invalid("end")
        self.assert_last_invalid("qubits 1", "end")
        self.assert_gates(("qubits 1", "T 0"), [T0])


class TooLargeTest(ReaderCase):
    def test_constant(self):
        self.assertEqual(MAX_GATES, 5000)

    def test_in_the_circuit(self):
        full = ["qubits 1"] + ["T 0"] * 5000
        self.assert_gates(full, [T0] * 5000)
        self.assert_too_large(*full, "T 0")
        self.assert_too_large(*full, "W")
        self.assert_gates(full + ["repeat 999999", "end", "repeat 0", "T 0", "end"], [T0] * 5000)

    def test_by_a_macro(self):
        lines = ["qubits 3"] + ["T 0"] * 4987 + ["CCZ 0 1 2"]
        self.assert_gates(lines, [T0] * 4987 + listed("CCZ", (0, 1, 2)))
        self.assert_too_large("qubits 3", *["T 0"] * 4988, "CCZ 0 1 2")

    def test_in_a_block(self):
        block = ["repeat 0"] + ["T 0"] * 5000
        self.assert_gates(["qubits 1"] + block + ["end"], [])
        self.assert_too_large("qubits 1", *block, "T 0")
        self.assert_too_large("qubits 1", *block, "T 0", "end")
        self.assert_gates(["qubits 1", "repeat 1"] + ["T 0"] * 5000 + ["end"], [T0] * 5000)

    def test_by_an_end(self):
        self.assert_gates(("qubits 1", "repeat 5000", "T 0", "end"), [T0] * 5000)
        self.assert_too_large("qubits 1", "repeat 5001", "T 0", "end")
        self.assert_too_large("qubits 1", "T 0", "repeat 5000", "T 0", "end")
        self.assert_too_large("qubits 1", "repeat 999999", "T 0", "end")
        self.assert_gates(("qubits 1", "repeat 2", "repeat 2500", "T 0", "end", "end"), [T0] * 5000)
        self.assert_too_large("qubits 1", "repeat 2", "repeat 2501", "T 0", "end", "end")
        # The inner block is too large for the outer one, which is never executed.
        self.assert_too_large("qubits 1", "repeat 0", "repeat 5001", "T 0", "end", "end")

    def test_in_a_definition(self):
        lines = ["qubits 1", "define f 1"] + ["T 0"] * 5000
        self.assert_gates(lines + ["end"], [])
        self.assert_gates(lines + ["end", "call f 0"], [T0] * 5000)
        self.assert_too_large(*lines, "T 0")
        self.assert_too_large(*lines, "end", "T 0", "call f 0")
        self.assert_too_large(*lines, "end", "call f 0", "T 0")
        self.assert_too_large(*lines, "end", "define g 1", "W", "call f 0", "end")

    def test_definitions_do_not_count_for_the_circuit(self):
        lines = ["qubits 1"] + ["T 0"] * 5000 + ["define f 1", "T 0", "end"]
        self.assert_gates(lines, [T0] * 5000)
        self.assert_too_large(*lines, "call f 0")

    def test_the_first_line_decides(self):
        start = ["qubits 1", "repeat 5001", "T 0"]
        self.assert_too_large(*start, "end", "nonsense")
        self.assert_too_large(*start, "end", "repeat 1")
        self.assert_invalid(text_of(*start, "nonsense", "end"), 4)
        full = ["qubits 1"] + ["T 0"] * 5000
        self.assert_invalid(text_of(*full, "T 1", "T 0"), 5002)
        self.assert_too_large(*full, "T 0", "T 1")
        self.assert_invalid(text_of(*full, "CCX 0 0 0"), 5002)
        self.assert_invalid(text_of(*full, "repeat 2"), 5002)

    def test_the_rules_of_the_line_come_first(self):
        full = ["qubits 1", "define f 1"] + ["T 0"] * 5000 + ["end", "T 0"]
        self.assert_too_large(*full, "call f 0")
        for line in ("call f 1", "call f", "call f 0 0", "T 1", "end"):
            self.assert_invalid(text_of(*full, line), len(full) + 1)


class WriteTest(unittest.TestCase):
    def test_lines(self):
        self.assertEqual(write_circuit(Circuit(7)), "qubits 7\n")
        circuit = Circuit(3, [("CX", (2, 0)), ("W", ()), ("TDG", (1,)), ("SWAP", (0, 1))])
        self.assertEqual(write_circuit(circuit), "qubits 3\nCX 2 0\nW\nTDG 1\nSWAP 0 1\n")

    def test_every_gate(self):
        gates = all_gates(12)
        lines = [" ".join([kind] + [str(q) for q in qubits]) for kind, qubits in gates]
        self.assertEqual(write_circuit(Circuit(12, gates)), text_of("qubits 12", *lines))

    def test_read_again(self):
        for width, count in ((1, 0), (1, 9), (4, 60), (64, 5000)):
            gates = drawn_gates(width + 7, width, count)
            again = read_circuit(write_circuit(Circuit(width, gates)))
            self.assertEqual((again.width, again.gates), (width, gates))

    def test_circuits_that_cannot_be_read(self):
        self.assertEqual(write_circuit(Circuit(65, [("H", (64,))])), "qubits 65\nH 64\n")
        with self.assertRaises(InvalidText):
            read_circuit(write_circuit(Circuit(65)))
        text = write_circuit(Circuit(1, [H0] * 5001))
        self.assertEqual(text, "qubits 1\n" + "H 0\n" * 5001)
        with self.assertRaises(TooLarge):
            read_circuit(text)


if __name__ == "__main__":
    unittest.main()
