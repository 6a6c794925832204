"""The audit of two circuits (point 69)."""

import unittest

from phasor.audit import audit
from phasor.circuit import Circuit
from phasor.errors import SizeMismatch
from phasor.macros import macro_gates
from phasor.passes import PASSES, optimize, run_pass
from tests.cases import W, GatesCase
from tests.plain import (
    CLIFFORD_KINDS, P_ONE, P_ROOT, all_gates, drawn_gates, inverse_gates, p_power, sparse_step,
    sparse_turn, t_count,
)


def executed_phase(width, first, second):
    """The k for which the first list is w^k times the second one, or None.

    The first list and the inverse of the second one are executed on each basis state.
    """
    gates = first + inverse_gates(second)
    roots = p_power(P_ROOT, sum(1 for kind, _ in gates if kind == "H"))
    turned = [sparse_turn(roots, k) for k in range(8)]
    phases = set()
    for start in range(2 ** width):
        state = {start: P_ONE}
        for gate in gates:
            state = sparse_step(state, gate)
        if list(state) != [start] or state[start] not in turned:
            return None
        phases.add(turned.index(state[start]))
    return phases.pop() if len(phases) == 1 else None


class AuditCase(GatesCase):
    def assert_audit(self, width, first, second):
        """The audit, held against the executed gates."""
        one, other = Circuit(width, first), Circuit(width, second)
        result = audit(one, other)
        self.assertEqual((one.gates, other.gates), (first, second))
        self.assertIs(type(result), tuple)
        word, turns = result
        phase = executed_phase(width, first, second)
        if word == "equal":
            self.assertIs(type(turns), int)
            self.assertEqual(turns, phase)
        else:
            self.assertIn(word, ("unequal", "open"))
            self.assertIsNone(turns)
        if word == "unequal":
            self.assertIsNone(phase)
        if t_count(first) + t_count(second) == 0:
            self.assertNotEqual(word, "open")
        return result

    def assert_equal_up_to(self, width, first, second):
        """Both are equal for the audit, whatever gates W are added."""
        _, phase = self.assert_audit(width, first, second)
        self.assertIsNotNone(phase)
        for turns in range(8):
            self.assertEqual(
                self.assert_audit(width, first + [W] * turns, second),
                ("equal", (phase + turns) % 8))
            self.assertEqual(
                self.assert_audit(width, first, [W] * turns + second),
                ("equal", (phase - turns) % 8))


class EqualTest(AuditCase):
    def test_no_gates_and_turns(self):
        for width in (1, 2, 3):
            self.assert_equal_up_to(width, [], [])
            self.assert_equal_up_to(width, [W] * 20, [W] * 3)

    def test_each_gate_with_itself(self):
        for gate in all_gates(3):
            self.assert_equal_up_to(3, [gate], [gate])

    def test_known_equalities(self):
        h, s, t = ("H", (0,)), ("S", (0,)), ("T", (0,))
        for first, second in (
                ([t, t], [s]), ([s, s], [("Z", (0,))]), ([h, ("X", (0,)), h], [("Z", (0,))]),
                ([h, s] * 3, [W]), ([("Y", (0,))], [("Z", (0,)), ("X", (0,)), W, W]),
                ([("SWAP", (0, 1))], [("CX", (0, 1)), ("CX", (1, 0)), ("CX", (0, 1))]),
                ([("CZ", (0, 1))], [("CZ", (1, 0))]),
                ([("CZ", (0, 1))], [("H", (1,)), ("CX", (0, 1)), ("H", (1,))]),
                ([("CX", (0, 1))],
                 [h, ("H", (1,)), ("CX", (1, 0)), ("H", (1,)), h]),
                (macro_gates("CS", (0, 1)) * 2, [("CZ", (0, 1))])):
            self.assert_equal_up_to(2, first, second)
            self.assert_equal_up_to(2, second, first)
        self.assert_equal_up_to(3, macro_gates("CCX", (0, 1, 2)), macro_gates("CCX", (1, 0, 2)))

    def test_all_phases_of_drawn_gates(self):
        for width in (1, 2, 3, 4):
            for seed in range(3):
                gates = drawn_gates(seed, width, 20 * width)
                self.assert_equal_up_to(width, gates, list(gates))

    def test_the_same_list_with_many_t_gates(self):
        """Such lists are found to be equal, however many T gates they have."""
        for kinds in (("H", "T", "CX"), ("H", "S", "T", "CX", "CX", "CZ")):
            for width in (3, 4, 5):
                for seed in range(3):
                    gates = drawn_gates(seed, width, 30 * width, kinds)
                    one, other = Circuit(width, gates + [W] * seed), Circuit(width, gates)
                    self.assertEqual(audit(one, other), ("equal", seed))
                    self.assertEqual(audit(other, one), ("equal", -seed % 8))

    def test_results_of_passes(self):
        """Each pass gives an equal circuit: the audit says so, or it is open."""
        told = 0
        for width in (2, 3):
            for seed in range(4):
                circuit = Circuit(width, drawn_gates(seed, width, 40))
                results = [run_pass(name, circuit) for name in PASSES] + [optimize(circuit)]
                for result in results:
                    word, turns = self.assert_audit(width, circuit.gates, result.gates)
                    self.assertIn((word, turns), (("equal", 0), ("open", None)))
                    told += word == "equal"
        # 8 results for each of 8 circuits; only a few are open.
        self.assertGreater(told, 48)


class UnequalTest(AuditCase):
    def test_each_gate_and_another_one(self):
        for first in all_gates(2):
            for second in all_gates(2):
                self.assertNotEqual(self.assert_audit(2, [first], [second])[0], "open")

    def test_one_gate_more(self):
        for width in (1, 2, 3):
            gates = drawn_gates(width, width, 30)
            for at in (0, 10, 20, 30):
                for gate in all_gates(width):
                    word, _ = self.assert_audit(width, gates, gates[:at] + [gate] + gates[at:])
                    if gate == W:
                        self.assertEqual(word, "equal")

    def test_one_gate_changed(self):
        told = 0
        for width in (2, 3):
            for seed in range(4):
                gates = drawn_gates(seed, width, 30)
                for at in range(0, 30, 3):
                    others = gates[:at] + drawn_gates(seed + at, width, 1) + gates[at + 1:]
                    told += self.assert_audit(width, gates, others)[0] == "unequal"
                    told += self.assert_audit(width, others, gates)[0] == "unequal"
        self.assertGreater(told, 80)

    def test_same_values_on_all_basis_states_up_to_signs(self):
        """Diagonals that differ in one basis state only, and H S H, which has roots left."""
        ccz = macro_gates("CCZ", (0, 1, 2))
        self.assertEqual(self.assert_audit(3, ccz, []), ("unequal", None))
        self.assertEqual(self.assert_audit(3, [], macro_gates("CS", (0, 2))), ("unequal", None))
        self.assertEqual(
            self.assert_audit(1, [("H", (0,)), ("S", (0,)), ("H", (0,))], []), ("unequal", None))

    def test_open(self):
        """H T H: the term of the inner variable is odd, and no rule applies."""
        gates = [("H", (0,)), ("T", (0,)), ("H", (0,))]
        self.assertEqual(self.assert_audit(1, gates, []), ("open", None))


class WithoutTTest(AuditCase):
    """Without T gates, the audit is never open."""

    def test_drawn_gates(self):
        equal = 0
        for width in (1, 2, 3, 4):
            for seed in range(12):
                first = drawn_gates(seed, width, 15 * width, CLIFFORD_KINDS)
                second = drawn_gates(seed + 50, width, 15 * width, CLIFFORD_KINDS)
                equal += self.assert_audit(width, first, second)[0] == "equal"
                self.assert_audit(width, second, first)
                shorter = run_pass("cliffords", Circuit(width, first)).gates
                self.assertEqual(self.assert_audit(width, first, shorter), ("equal", 0))
                for gate in (("S", (0,)), ("X", (width - 1,)), ("H", (0,))):
                    self.assertEqual(
                        self.assert_audit(width, first, shorter + [gate]), ("unequal", None))
        self.assertLess(equal, 10)

    def test_wide_circuits(self):
        for width in (6, 8):
            gates = drawn_gates(width, width, 300, CLIFFORD_KINDS)
            circuit = Circuit(width, gates + [W] * 3)
            other = Circuit(width, gates)
            self.assertEqual(audit(circuit, other), ("equal", 3))
            other.add("S", 2)
            self.assertEqual(audit(circuit, other), ("unequal", None))
            other.add("H", 1)
            self.assertEqual(audit(circuit, other), ("unequal", None))


class AuditErrorsTest(AuditCase):
    def test_widths_that_differ(self):
        for first in (1, 2, 3, 5):
            for second in (1, 2, 3, 5):
                if first != second:
                    one, other = Circuit(first, [("T", (0,))]), Circuit(second, [("T", (0,))])
                    self.assert_error(SizeMismatch, audit, one, other)
                    self.assertEqual((one.gates, other.gates), ([("T", (0,))], [("T", (0,))]))


if __name__ == "__main__":
    unittest.main()
