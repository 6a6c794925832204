"""The diagonal of a path sum, closed sums and their reduction (points 67 and 68)."""

import unittest

from phasor.circuit import Circuit
from phasor.closedsum import ClosedSum
from phasor.errors import TooLarge
from phasor.macros import macro_gates
from phasor.pathsum import path_sum_of
from tests.cases import W, GatesCase
from tests.plain import (
    CLIFFORD_KINDS, P_ONE, P_ZERO, all_gates, drawn_gates, inverse_gates, is_lowest,
    sparse_columns, sparse_turn, value,
)
from tests.test_pathsum import count_h, with_few_h


def diagonal_of(width, gates):
    return [column.get(k, P_ZERO) for k, column in enumerate(sparse_columns(width, gates))]


def plain_inner(width, gates):
    """The inner variables of the diagonal: those of H, less the equations that have one.

    None if an equation without them does not hold.
    """
    numbers = [2 << qubit for qubit in range(width)]
    fresh = 2 << width
    for kind, qubits in gates:
        if kind == "H":
            numbers[qubits[0]] = fresh
            fresh *= 2
        elif kind in ("X", "Y"):
            numbers[qubits[0]] ^= 1
        elif kind == "CX":
            numbers[qubits[1]] ^= numbers[qubits[0]]
        elif kind == "SWAP":
            a, b = qubits
            numbers[a], numbers[b] = numbers[b], numbers[a]
    left = [number ^ (2 << qubit) for qubit, number in enumerate(numbers)]
    inner = count_h(gates)
    while left:
        number = left.pop()
        top = 1 << (number.bit_length() - 1) if number else 0
        if top >= 2 << width:
            inner -= 1
            left = [other ^ number if other & top else other for other in left]
        elif number:
            return None
    return inner


def rule_applies(closed):
    """Whether one of the rules of point 68 applies, read off the terms of the sum."""
    steps = closed._sum.products._steps
    for y in closed._sum.variables:
        around = [product for product in steps if product & y]
        pairs = [product for product in around if product != y]
        plain = all(bin(p).count("1") == 2 and steps[p] == 4 for p in pairs)
        if plain and steps.get(y, 0) % 2 == 0:
            return True
    return False


class ClosedCase(GatesCase):
    def assert_values(self, closed, wanted):
        for index, x in enumerate(wanted):
            found = closed.value(index)
            self.assertTrue(is_lowest(found))
            self.assertEqual(value(found), x)

    def assert_constant(self, closed, wanted):
        """What constant says, and that only sums that are constant say it."""
        found = closed.constant()
        if closed.broken or closed.inner > 0:
            self.assertIsNone(found)
        else:
            phases = [k for k in range(8) if wanted == [sparse_turn(P_ONE, k)] * len(wanted)]
            self.assertEqual(found, phases[0] if phases else None)

    def assert_closed(self, width, gates):
        """The values before and after reducing, held against the executed gates."""
        wanted = diagonal_of(width, gates)
        closed = path_sum_of(Circuit(width, gates)).diagonal()
        self.assertIs(type(closed), ClosedSum)
        inner = plain_inner(width, gates)
        self.assertIs(closed.broken, inner is None)
        if inner is not None:
            self.assertEqual(closed.inner, inner)
            self.assert_values(closed, wanted)
            self.assert_constant(closed, wanted)
            self.assertIsNone(closed.reduce())
            self.assertLessEqual(closed.inner, inner)
        if closed.broken:
            self.assertIn(P_ZERO, wanted)
            closed.reduce()
            self.assertIs(closed.broken, True)
        else:
            self.assertIs(closed.broken, False)
            self.assert_values(closed, wanted)
            self.assertFalse(rule_applies(closed))
            left = closed.inner
            closed.reduce()
            self.assertEqual(closed.inner, left)
        self.assert_constant(closed, wanted)
        return closed


class DiagonalTest(ClosedCase):
    def test_no_gates_and_turns(self):
        for width in (1, 2, 3):
            for turns in range(18):
                closed = self.assert_closed(width, [W] * turns)
                self.assertEqual((closed.inner, closed.constant()), (0, turns % 8))

    def test_attributes_are_set(self):
        closed = path_sum_of(Circuit(1, [("H", (0,)), ("T", (0,)), ("H", (0,))])).diagonal()
        self.assertEqual((vars(closed)["inner"], vars(closed)["broken"]), (1, False))

    def test_each_gate_alone(self):
        for gate in all_gates(3):
            self.assert_closed(3, [gate])
            self.assert_closed(3, [("H", (0,)), gate, W, ("H", (0,))])
            self.assert_closed(3, [("H", (0,)), ("H", (2,)), gate, ("H", (0,)), ("H", (2,))])

    def test_diagonals_without_inner_variables(self):
        closed = self.assert_closed(1, [("H", (0,))])
        self.assertEqual((closed.inner, closed.constant()), (0, None))
        for kind in ("Z", "S", "T", "TDG"):
            self.assertIsNone(self.assert_closed(2, [(kind, (1,))]).constant())

    def test_equations_that_do_not_hold(self):
        """Without inner variables: X, CX and SWAP change some basis state."""
        for gates in ([("X", (0,))], [("Y", (1,)), W], [("CX", (0, 1))], [("SWAP", (0, 1))],
                      [("H", (0,)), ("X", (1,))], [("CX", (1, 0)), ("H", (0,)), ("X", (1,))],
                      [("H", (1,)), ("CX", (0, 1)), ("X", (0,)), ("T", (0,))]):
            closed = path_sum_of(Circuit(2, gates)).diagonal()
            self.assertIs(closed.broken, True)
            self.assertIsNone(closed.constant())
            self.assert_closed(2, gates)

    def test_each_diagonal_is_new(self):
        path_sum = path_sum_of(Circuit(1, [("H", (0,)), ("H", (0,))]))
        first, second = path_sum.diagonal(), path_sum.diagonal()
        self.assertIsNot(first, second)
        first.reduce()
        self.assertEqual((first.inner, second.inner), (0, 1))
        path_sum.apply(("X", (0,)))
        self.assert_values(second, [P_ONE, P_ONE])
        self.assertEqual((first.constant(), second.constant()), (0, None))

    def test_twelve_and_thirteen_inner_variables(self):
        for count, left in ((12, 11), (13, 12), (14, 13)):
            gates = [("H", (0,)), ("T", (0,))] * count
            closed = path_sum_of(Circuit(1, gates)).diagonal()
            self.assertEqual(closed.inner, left)
            if left <= 12:
                self.assert_closed(1, gates)
            else:
                for index in (0, 1):
                    self.assert_error(TooLarge, closed.value, index)
                self.assertEqual((closed.inner, closed.broken), (13, False))
        # Reducing removes the variables that are too many.
        gates = [("H", (0,)), ("S", (0,))] * 15 + [("H", (0,)), ("T", (0,)), ("H", (0,))]
        closed = path_sum_of(Circuit(1, gates)).diagonal()
        self.assert_error(TooLarge, closed.value, 0)
        closed.reduce()
        self.assert_values(closed, diagonal_of(1, gates))


class RulesTest(ClosedCase):
    """The rules of point 68, each alone. H on both sides makes one inner variable."""

    def around(self, gates, count=1):
        turns = [("H", (qubit,)) for qubit in range(count)]
        return turns + gates + turns

    def test_first_rule(self):
        closed = self.assert_closed(1, self.around([]))
        self.assertEqual((closed.inner, closed.broken, closed.constant()), (0, False, 0))

    def test_second_rule(self):
        """c is 2 or 6, with no, one, two and three variables, inner ones among them."""
        for kind in ("S", "SDG"):
            for others in ([], [1], [1, 2], [1, 2, 3]):
                for count in (1, 2, 3):
                    gates = [(kind, (0,))] + [("CZ", (0, qubit)) for qubit in others]
                    closed = self.assert_closed(4, self.around(gates, count))
                    self.assertEqual((closed.inner == 0 or closed.broken), True)
            closed = self.assert_closed(4, self.around([(kind, (0,)), ("CZ", (0, 1))]))
            self.assertEqual((closed.inner, closed.broken), (0, False))

    def test_third_rule(self):
        """c is 0 or 4, and the partners contain inner variables."""
        for first in ([], [("Z", (0,))]):
            for others in ([1], [1, 2], [1, 2, 3]):
                for second in ([], [("Z", (1,))], [("S", (1,))], [("T", (1,))], [("CZ", (1, 2))]):
                    gates = first + [("CZ", (0, qubit)) for qubit in others] + second
                    for count in (2, 3):
                        self.assert_closed(4, self.around(gates, count))
        closed = self.assert_closed(2, self.around([("CZ", (0, 1))], 2))
        self.assertEqual((closed.inner, closed.broken), (0, False))
        # The variable is replaced by the constant 1.
        closed = self.assert_closed(2, self.around([("Z", (0,)), ("CZ", (0, 1)), ("T", (1,))], 2))
        self.assertEqual((closed.inner, closed.broken), (0, False))

    def test_third_rule_in_products_of_three(self):
        """The replaced variable occurs in terms of one, two and three variables."""
        gates = macro_gates("CCZ", (1, 2, 3)) + [("T", (1,)), ("CZ", (1, 2))]
        for first in ([], [("Z", (0,))]):
            for others in ([1], [1, 2], [1, 2, 3]):
                ladder = [("CZ", (0, qubit)) for qubit in others]
                for count in (2, 3, 4):
                    self.assert_closed(4, self.around(first + gates + ladder, count))

    def test_fourth_rule(self):
        """c is 4 without partners, and c is 0 or 4 with inputs only."""
        for gates in ([("Z", (0,))], [("CZ", (0, 1))], [("Z", (0,)), ("CZ", (0, 1))],
                      [("CZ", (0, 1)), ("CZ", (2, 0))]):
            circuit = Circuit(3, self.around(gates))
            closed = path_sum_of(circuit).diagonal()
            self.assertIs(closed.broken, False)
            closed.reduce()
            self.assertIs(closed.broken, True)
            self.assertIsNone(closed.constant())
            self.assert_closed(3, circuit.gates)

    def test_no_rule(self):
        """Odd steps, pairs with other steps than 4, and products of three variables."""
        for gates in ([("T", (0,))], [("TDG", (0,))], macro_gates("CS", (0, 1)),
                      macro_gates("CCZ", (0, 1, 2)), [("T", (0,)), ("CZ", (0, 1))],
                      macro_gates("CSDG", (2, 0)) + [("S", (0,))]):
            closed = self.assert_closed(3, self.around(gates))
            self.assertEqual((closed.inner, closed.broken, closed.constant()), (1, False, None))

    def test_no_terms_but_roots(self):
        """All values are the same, but they are not w^turns."""
        closed = self.assert_closed(1, self.around([("S", (0,))]))
        self.assertEqual((closed.inner, closed.constant()), (0, None))


class ReduceTest(ClosedCase):
    def test_drawn_clifford_gates(self):
        """No inner variable is left, or the sum is broken."""
        for width in (1, 2, 3, 4):
            for seed in range(15):
                gates = with_few_h(drawn_gates(seed, width, 14 * width, CLIFFORD_KINDS), 8)
                closed = self.assert_closed(width, gates)
                self.assertTrue(closed.broken or closed.inner == 0)

    def test_drawn_gates(self):
        for width in (1, 2, 3, 4):
            for seed in range(15):
                gates = drawn_gates(seed, width, 14 * width)
                self.assert_closed(width, with_few_h(gates, 8))
                # A list and its inverse, with a gate between them.
                half = with_few_h(gates, 4)
                self.assert_closed(width, half + [("S", (0,))] + inverse_gates(half))

    def test_lists_and_their_inverses(self):
        for width in (1, 2, 3):
            for seed in range(10):
                half = with_few_h(drawn_gates(seed, width, 14 * width), 6)
                for turns in range(8):
                    closed = self.assert_closed(width, half + inverse_gates(half) + [W] * turns)
                    self.assertEqual((closed.inner, closed.constant()), (0, turns))

    def test_many_h_and_t_gates(self):
        for seed in range(15):
            gates = with_few_h(drawn_gates(seed, 3, 40, ("H", "T", "CX", "CZ", "S", "X")), 9)
            self.assert_closed(3, gates)

    def test_wide_sums(self):
        """A sum of many variables: its amplitudes are not computed, its rules are tried."""
        gates = drawn_gates(2, 6, 120)
        closed = path_sum_of(Circuit(6, gates + inverse_gates(gates) + [W])).diagonal()
        closed.reduce()
        self.assertEqual(closed.constant(), 1)
        for seed in range(6):
            closed = path_sum_of(Circuit(6, drawn_gates(seed, 6, 200) + gates)).diagonal()
            closed.reduce()
            self.assertTrue(closed.broken or not rule_applies(closed))


if __name__ == "__main__":
    unittest.main()
