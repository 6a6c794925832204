"""Tableaux (point 18)."""

import unittest

from phasor.errors import InvalidGate, NotClifford, SizeMismatch
from phasor.tableau import Tableau, tableau_of
from tests.plain import (
    CLIFFORD_KINDS, all_gates, drawn_gates, inverse_gates, pauli_columns, plain_columns,
    plain_matmul, plain_phase,
)
from tests.test_pauli import all_paulis, drawn_paulis


def images_of(tableau):
    qubits = range(tableau.width)
    return (tableau.width, [tableau.image_of_x(q) for q in qubits],
            [tableau.image_of_z(q) for q in qubits])


class TableauCase(unittest.TestCase):
    def assert_image(self, width, columns, pauli, image):
        """U P = Q U for the image Q under U."""
        self.assertIs(type(image), tuple)
        self.assertEqual(
            plain_matmul(columns, pauli_columns(width, pauli)),
            plain_matmul(pauli_columns(width, image), columns))

    def assert_tableau(self, width, gates, tableau):
        self.assertIs(type(tableau), Tableau)
        self.assertEqual(tableau.width, width)
        columns = plain_columns(width, gates)
        for qubit in range(width):
            self.assert_image(width, columns, (0, 1 << qubit, 0), tableau.image_of_x(qubit))
            self.assert_image(width, columns, (0, 0, 1 << qubit), tableau.image_of_z(qubit))


class MakingTest(TableauCase):
    def test_identity(self):
        for width in (1, 2, 5, 40):
            tableau = Tableau(width)
            self.assertEqual(tableau.width, width)
            for qubit in range(width):
                self.assertEqual(tableau.image_of_x(qubit), (0, 1 << qubit, 0))
                self.assertEqual(tableau.image_of_z(qubit), (0, 0, 1 << qubit))

    def test_widths_below_one(self):
        for width in (0, -1, -10 ** 20):
            with self.assertRaises(InvalidGate):
                Tableau(width)
            with self.assertRaises(InvalidGate):
                tableau_of(width, [])

    def test_tableaux_do_not_share(self):
        first, second = Tableau(1), Tableau(1)
        first.apply(("H", (0,)))
        self.assertEqual(second.image_of_x(0), (0, 1, 0))


class ApplyTest(TableauCase):
    def test_each_gate(self):
        for width in (1, 2, 3):
            for gate in all_gates(width, CLIFFORD_KINDS):
                tableau = Tableau(width)
                self.assertIsNone(tableau.apply(gate))
                self.assert_tableau(width, [gate], tableau)

    def test_drawn_gates(self):
        for width in (1, 2, 3):
            for seed in range(4):
                gates = drawn_gates(seed, width, 25, CLIFFORD_KINDS)
                tableau = Tableau(width)
                for gate in gates:
                    tableau.apply(gate)
                self.assert_tableau(width, gates, tableau)
                self.assert_tableau(width, gates, tableau_of(width, gates))

    def test_no_gates(self):
        self.assert_tableau(2, [], tableau_of(2, []))

    def test_gates_are_not_changed(self):
        gates = drawn_gates(3, 3, 10, CLIFFORD_KINDS)
        before = list(gates)
        tableau_of(3, gates)
        self.assertEqual(gates, before)

    def test_wrong_gates(self):
        start = drawn_gates(4, 2, 12, CLIFFORD_KINDS)
        tableau = tableau_of(2, start)
        before = images_of(tableau)
        cases = [(InvalidGate, gate) for gate in (
            ("H", (2,)), ("H", (-1,)), ("CX", (0, 0)), ("CX", (0,)), ("W", (0,)), ("CCX", (0, 1)),
            ("T", (2,)), ("TDG", (0, 1)), ("T", ()), ("SWAP", (0, 2)), ("", ()))]
        cases += [(NotClifford, ("T", (0,))), (NotClifford, ("TDG", (1,)))]
        for error, gate in cases:
            with self.subTest(gate=gate):
                with self.assertRaises(error) as caught:
                    tableau.apply(gate)
                self.assertIs(type(caught.exception), error)
                self.assertEqual(images_of(tableau), before)

    def test_the_first_wrong_gate(self):
        wrong, t_gate = ("H", (5,)), ("T", (0,))
        for gates, error in (([wrong], InvalidGate), ([t_gate], NotClifford),
                             ([("H", (0,)), wrong, t_gate], InvalidGate),
                             ([("H", (0,)), t_gate, wrong], NotClifford)):
            with self.assertRaises(error) as caught:
                tableau_of(2, gates)
            self.assertIs(type(caught.exception), error)


class ImageTest(TableauCase):
    def test_all_operators_on_two_qubits(self):
        for seed in range(3):
            gates = drawn_gates(seed + 20, 2, 15, CLIFFORD_KINDS)
            tableau = tableau_of(2, gates)
            columns = plain_columns(2, gates)
            for pauli in all_paulis(2):
                self.assert_image(2, columns, pauli, tableau.image(pauli))

    def test_drawn_operators(self):
        for width in (1, 3):
            gates = drawn_gates(width, width, 20, CLIFFORD_KINDS)
            tableau = tableau_of(width, gates)
            columns = plain_columns(width, gates)
            for pauli in drawn_paulis(6, width, 20):
                self.assert_image(width, columns, pauli, tableau.image(pauli))


class ThenTest(TableauCase):
    def test_then(self):
        for width in (1, 2, 3):
            first = drawn_gates(width + 30, width, 12, CLIFFORD_KINDS)
            second = drawn_gates(width + 40, width, 12, CLIFFORD_KINDS)
            one, other = tableau_of(width, first), tableau_of(width, second)
            before = images_of(one), images_of(other)
            both = one.then(other)
            self.assert_tableau(width, first + second, both)
            both.apply(("H", (0,)))
            self.assertEqual((images_of(one), images_of(other)), before)
            one.apply(("S", (0,)))
            self.assert_tableau(width, first + second + [("H", (0,))], both)

    def test_widths(self):
        for first, second in ((1, 2), (3, 2)):
            with self.assertRaises(SizeMismatch):
                Tableau(first).then(Tableau(second))

    def test_inverse(self):
        for width in (1, 2, 3):
            for seed in range(4):
                gates = drawn_gates(seed + 70, width, 16, CLIFFORD_KINDS)
                tableau = tableau_of(width, gates)
                before = images_of(tableau)
                inverse = tableau.inverse()
                self.assert_tableau(width, inverse_gates(gates), inverse)
                inverse.apply(("X", (0,)))
                self.assertEqual(images_of(tableau), before)

    def test_inverse_of_each_gate(self):
        for gate in all_gates(3, CLIFFORD_KINDS):
            self.assert_tableau(3, inverse_gates([gate]), tableau_of(3, [gate]).inverse())


class SameTest(TableauCase):
    def test_equal_up_to_phase(self):
        lists = [drawn_gates(seed, 1, 5, ("H", "S", "X", "Z", "W")) for seed in range(30)]
        columns = [plain_columns(1, gates) for gates in lists]
        tableaux = [tableau_of(1, gates) for gates in lists]
        for i in range(30):
            for j in range(30):
                wanted = plain_phase(columns[i], columns[j]) is not None
                self.assertIs(tableaux[i].same_as(tableaux[j]), wanted)

    def test_one_image_differs(self):
        for gate in all_gates(2, CLIFFORD_KINDS):
            same = gate[0] == "W"
            self.assertIs(tableau_of(2, [gate]).same_as(Tableau(2)), same)
            self.assertIs(Tableau(2).same_as(tableau_of(2, [gate])), same)

    def test_widths(self):
        self.assertIs(Tableau(1).same_as(Tableau(2)), False)
        self.assertIs(Tableau(2).same_as(Tableau(1)), False)
        self.assertIs(Tableau(2).same_as(Tableau(2)), True)


if __name__ == "__main__":
    unittest.main()
