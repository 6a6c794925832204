"""Values, groups of phase gates and folding (points 36 to 38)."""

import unittest

from phasor.folding import fold_phases, phase_groups
from tests.cases import W, GatesCase
from tests.plain import PLAIN_STEPS, all_gates, drawn_gates, other_than_w

ROTATION_KINDS = ([], ["T"], ["S"], ["S", "T"], ["Z"], ["Z", "T"], ["SDG"], ["TDG"])


def plain_groups(width, gates):
    """The groups: lists of (index, steps, constant), followed with sets of variables."""
    values = [(frozenset([qubit]), 0) for qubit in range(width)]
    fresh = width
    groups = {}
    for index, (kind, qubits) in enumerate(gates):
        if kind in PLAIN_STEPS:
            variables, constant = values[qubits[0]]
            groups.setdefault(variables, []).append((index, PLAIN_STEPS[kind], constant))
        elif kind == "H":
            values[qubits[0]] = (frozenset([fresh]), 0)
            fresh += 1
        elif kind in ("X", "Y"):
            variables, constant = values[qubits[0]]
            values[qubits[0]] = (variables, 1 - constant)
        elif kind == "CX":
            (a, p), (b, q) = values[qubits[0]], values[qubits[1]]
            values[qubits[1]] = (a ^ b, p ^ q)
        elif kind == "SWAP":
            a, b = qubits
            values[a], values[b] = values[b], values[a]
    return list(groups.values())


def plain_totals(width, gates):
    result = []
    for group in plain_groups(width, gates):
        first, _, constant = group[0]
        total = sum(steps if own == constant else -steps for _, steps, own in group)
        result.append((first, total % 8))
    return result


class FoldingCase(GatesCase):
    def assert_folded(self, width, gates):
        given = list(gates)
        groups = phase_groups(width, gates)
        self.assertEqual(gates, given)
        self.assertIs(type(groups), list)
        self.assertTrue(all(type(group) is tuple for group in groups))
        self.assertEqual(groups, plain_totals(width, gates))
        groups.append("more")
        self.assertEqual(phase_groups(width, gates) + ["more"], groups)
        result = self.assert_pass(fold_phases, width, gates)
        totals = dict(plain_totals(width, gates))
        wanted = []
        for index, gate in enumerate(gates):
            if index in totals:
                wanted += [(kind, gate[1]) for kind in ROTATION_KINDS[totals[index]]]
            elif gate[0] not in PLAIN_STEPS and gate[0] != "W":
                wanted.append(gate)
        self.assertEqual(other_than_w(result), wanted)
        return result


class FoldingTest(FoldingCase):
    def test_examples(self):
        gates = [("T", (0,)), ("X", (0,)), ("T", (0,)), ("H", (0,)), ("T", (0,))]
        self.assertEqual(phase_groups(1, gates), [(0, 0), (4, 1)])
        self.assertEqual(fold_phases(1, gates), [("X", (0,)), ("H", (0,)), ("T", (0,)), W])
        self.assert_folded(1, gates)

    def test_no_gates(self):
        for width in (1, 2, 4):
            self.assertEqual(self.assert_folded(width, []), [])

    def test_turns_alone(self):
        for turns in range(20):
            self.assertEqual(self.assert_folded(2, [W] * turns), [W] * (turns % 8))

    def test_each_gate_alone(self):
        for width in (1, 2, 3):
            for gate in all_gates(width):
                self.assertEqual(self.assert_folded(width, [gate]), [gate])

    def test_no_phase_gates(self):
        for seed in range(5):
            gates = drawn_gates(seed, 3, 30, ("H", "X", "Y", "CX", "CZ", "SWAP"))
            self.assertEqual(self.assert_folded(3, gates), gates)

    def test_drawn_gates(self):
        for width in (1, 2, 3, 4, 5):
            for seed in range(10):
                self.assert_folded(width, drawn_gates(seed, width, 10 * width + 3 * seed))

    def test_without_h(self):
        kinds = ("X", "Y", "Z", "S", "SDG", "T", "TDG", "CX", "CZ", "SWAP", "W")
        for width in (1, 2, 3, 4):
            for seed in range(8):
                self.assert_folded(width, drawn_gates(seed, width, 30, kinds))

    def test_phase_gates_under_x_and_y(self):
        for flip in ("X", "Y"):
            for first in PLAIN_STEPS:
                for second in PLAIN_STEPS:
                    gates = [(first, (0,)), (flip, (0,)), (second, (0,))]
                    self.assert_folded(1, gates)
                    self.assert_folded(1, [(flip, (0,))] + gates)
                    self.assert_folded(1, gates + [(flip, (0,)), ("T", (0,))])

    def test_totals_of_zero(self):
        gates = [("T", (0,)), ("CX", (1, 0)), ("CX", (1, 0)), ("TDG", (0,))]
        self.assertEqual(phase_groups(2, gates), [(0, 0)])
        self.assertEqual(self.assert_folded(2, gates), gates[1:3])
        self.assertEqual(self.assert_folded(1, [("T", (0,))] * 8), [])
        flipped = [("T", (0,)), ("X", (0,)), ("T", (0,)), ("X", (0,))] * 4
        self.assertEqual(phase_groups(1, flipped), [(0, 0)])
        self.assert_folded(1, flipped)

    def test_each_total(self):
        for count in range(17):
            self.assert_folded(1, [("T", (0,))] * count)
            self.assert_folded(1, [("TDG", (0,)), W] * count + [("X", (0,))])

    def test_the_same_value_on_other_qubits(self):
        gates = [
            ("CX", (0, 1)), ("T", (1,)), ("SWAP", (1, 2)), ("CX", (2, 0)), ("T", (2,)),
            ("CX", (2, 0)), ("H", (1,)), ("CX", (2, 1)), ("CX", (0, 1)), ("CX", (2, 1)),
            ("T", (0,)), ("T", (2,)),
        ]
        self.assert_folded(3, gates)
        self.assertEqual([total for _, total in phase_groups(3, gates)], [3, 1])

    def test_new_variables(self):
        gates = [("T", (0,)), ("H", (0,)), ("H", (0,)), ("T", (0,))]
        self.assertEqual(phase_groups(1, gates), [(0, 1), (3, 1)])
        gates = [("H", (0,)), ("T", (0,)), ("H", (1,)), ("T", (1,)), ("SWAP", (0, 1)), ("T", (1,))]
        self.assertEqual(phase_groups(2, gates), [(1, 2), (3, 1)])
        self.assert_folded(2, gates)


if __name__ == "__main__":
    unittest.main()
