"""The examples of the interface."""

import unittest

from phasor.circuit import Circuit
from phasor.compiler import Compiler
from phasor.device import line_device
from phasor.folding import fold_phases, phase_groups
from phasor.linear import linear_of
from phasor.normalform import form_word, normal_form
from phasor.pauli import pauli_image, pauli_mul
from phasor.program import write_program
from phasor.reader import read_circuit
from phasor.ring import ring_mul, ring_turn
from phasor.rotations import to_rotations
from phasor.scaled import lowest, scaled_add


class ExamplesTest(unittest.TestCase):
    def test_ring(self):
        self.assertEqual(ring_mul((1, 1, 0, 0), (1, 1, 0, 0)), (1, 2, 1, 0))
        self.assertEqual(ring_turn((1, 0, 0, 0), -1), (0, 0, 0, -1))

    def test_scaled(self):
        self.assertEqual(lowest((2, 0, 0, 0), 2), ((1, 0, 0, 0), 0))
        self.assertEqual(lowest((1, 0, 0, 0), -1), ((0, 1, 0, -1), 0))
        self.assertEqual(
            scaled_add(((1, 0, 0, 0), 1), ((1, 0, 0, 0), 1)), ((0, 1, 0, -1), 0))

    def test_reader(self):
        text = "qubits 2\ndefine f 1\nT 0\nend\nrepeat 2\ncall f 1\nend\nCX 0 1\n"
        self.assertEqual(
            read_circuit(text).gates, [("T", (1,)), ("T", (1,)), ("CX", (0, 1))])

    def test_pauli(self):
        self.assertEqual(pauli_mul((0, 1, 0), (0, 0, 1)), (3, 1, 1))
        self.assertEqual(pauli_image(("H", (0,)), (0, 1, 1)), (2, 1, 1))

    def test_normalform(self):
        self.assertEqual(normal_form(["T", "H", "T"]), ("ZX", 1, 0))
        self.assertEqual(normal_form(["T", "S", "T"]), ("", 5, 0))
        self.assertEqual(form_word(("ZX", 1, 0)), ["H", "H", "T", "H", "T"])

    def test_linear(self):
        self.assertEqual(linear_of(3, [("CX", (0, 1)), ("CX", (1, 2))]), [1, 3, 7])

    def test_folding(self):
        gates = [("T", (0,)), ("X", (0,)), ("T", (0,)), ("H", (0,)), ("T", (0,))]
        self.assertEqual(phase_groups(1, gates), [(0, 0), (4, 1)])
        self.assertEqual(
            fold_phases(1, gates), [("X", (0,)), ("H", (0,)), ("T", (0,)), ("W", ())])

    def test_rotations(self):
        gates = [("H", (0,)), ("T", (0,)), ("X", (0,)), ("TDG", (0,))]
        self.assertEqual(
            to_rotations(1, gates),
            ([((0, 1, 0), 1), ((0, 1, 0), 1)],
             [("H", (0,)), ("X", (0,)), ("W", ()), ("W", ()), ("W", ()), ("W", ()), ("W", ()),
              ("W", ()), ("W", ())]))

    def test_machine(self):
        compiler = Compiler(line_device(2))
        result = compiler.run(Circuit(2, [("CX", (0, 1))]), start=[0, 1])
        self.assertEqual(
            write_program(result), "places 2\nstart 0 1\nend 0 1\nturns 0\nstep\nCX 0 1\n")


if __name__ == "__main__":
    unittest.main()
