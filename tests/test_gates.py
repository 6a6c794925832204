"""Gates, inverses, rotation gates and the line of a gate (points 6, 7, 8, 11)."""

import itertools
import unittest

from phasor.gates import (
    KINDS, collect_turns, count_t, count_two, gate_fits, gate_inverse, gate_text,
    is_t, rotation_gates, steps_of, used_qubits,
)
from tests.plain import ALL_KINDS, drawn_gates, plain_columns

ARITIES = {"H": 1, "X": 1, "Y": 1, "Z": 1, "S": 1, "SDG": 1, "T": 1, "TDG": 1,
           "CX": 2, "CZ": 2, "SWAP": 2, "W": 0}
STEPS = {"Z": 4, "S": 2, "SDG": 6, "T": 1, "TDG": 7}
INVERSES = {"S": "SDG", "SDG": "S", "T": "TDG", "TDG": "T"}


def gate_of(kind):
    return (kind, (2, 0, 1)[:ARITIES[kind]])


class FitsTest(unittest.TestCase):
    def test_kinds(self):
        self.assertEqual(
            KINDS, ("H", "X", "Y", "Z", "S", "SDG", "T", "TDG", "CX", "CZ", "SWAP", "W"))

    def test_every_choice_of_qubits(self):
        for kind in KINDS:
            for count in range(4):
                for qubits in itertools.product(range(-1, 4), repeat=count):
                    for width in range(-1, 5):
                        wanted = (
                            width >= 1 and count == ARITIES[kind]
                            and all(0 <= qubit < width for qubit in qubits)
                            and len(set(qubits)) == count)
                        self.assertIs(gate_fits((kind, qubits), width), wanted)

    def test_other_kinds(self):
        for kind in ("", "h", "CCX", "CS", "I", "H ", "HH", "t", "w", "TT", "qubits"):
            for qubits in ((), (0,), (0, 1), (0, 1, 2)):
                self.assertIs(gate_fits((kind, qubits), 5), False)

    def test_large_numbers(self):
        self.assertIs(gate_fits(("H", (10 ** 30,)), 10 ** 30 + 1), True)
        self.assertIs(gate_fits(("H", (10 ** 30,)), 10 ** 30), False)
        self.assertIs(gate_fits(("CX", (10 ** 30, 0)), 10 ** 40), True)
        self.assertIs(gate_fits(("CX", (0, -10 ** 30)), 10 ** 40), False)
        self.assertIs(gate_fits(("W", ()), -10 ** 30), False)


class InverseTest(unittest.TestCase):
    def test_every_kind(self):
        for kind in KINDS:
            gate = gate_of(kind)
            if kind == "W":
                wanted = [("W", ())] * 7
            else:
                wanted = [(INVERSES.get(kind, kind), gate[1])]
            self.assertIs(type(gate_inverse(gate)), list)
            self.assertEqual(gate_inverse(gate), wanted)

    def test_operators(self):
        for kind in KINDS:
            gate = gate_of(kind)
            self.assertEqual(plain_columns(3, [gate] + gate_inverse(gate)), plain_columns(3, []))

    def test_new_lists(self):
        for kind in KINDS:
            gate_inverse(gate_of(kind)).append("more")
            self.assertNotIn("more", gate_inverse(gate_of(kind)))


class PhaseGatesTest(unittest.TestCase):
    def test_steps(self):
        for kind in KINDS:
            self.assertEqual(steps_of(gate_of(kind)), STEPS.get(kind, 0))

    def test_t_gates(self):
        for kind in KINDS:
            self.assertIs(is_t(gate_of(kind)), kind in ("T", "TDG"))

    def test_rotation_gates(self):
        lists = ([], ["T"], ["S"], ["S", "T"], ["Z"], ["Z", "T"], ["SDG"], ["TDG"])
        for qubit in (0, 5):
            for steps in range(8):
                got = rotation_gates(qubit, steps)
                self.assertIs(type(got), list)
                self.assertEqual(got, [(kind, (qubit,)) for kind in lists[steps]])
                self.assertEqual(sum(STEPS[kind] for kind, _ in got) % 8, steps)

    def test_new_rotation_lists(self):
        for steps in range(8):
            rotation_gates(0, steps).append("more")
            self.assertNotIn("more", rotation_gates(0, steps))


class TextTest(unittest.TestCase):
    def test_lines(self):
        self.assertEqual(gate_text(("CX", (0, 1))), "CX 0 1")
        self.assertEqual(gate_text(("CX", (1, 0))), "CX 1 0")
        self.assertEqual(gate_text(("W", ())), "W")
        self.assertEqual(gate_text(("SWAP", (10, 63))), "SWAP 10 63")
        for kind in KINDS:
            if ARITIES[kind] == 1:
                self.assertEqual(gate_text((kind, (12,))), kind + " 12")


class ListsTest(unittest.TestCase):
    def setUp(self):
        self.lists = [drawn_gates(seed, 4, 5 * seed) for seed in range(12)]
        self.lists.append([(kind, gate_of(kind)[1]) for kind in ALL_KINDS])

    def test_counts(self):
        self.assertEqual((count_t([]), count_two([])), (0, 0))
        for gates in self.lists:
            kinds = [kind for kind, _ in gates]
            self.assertEqual(count_t(gates), kinds.count("T") + kinds.count("TDG"))
            self.assertEqual(
                count_two(gates), kinds.count("CX") + kinds.count("CZ") + kinds.count("SWAP"))

    def test_collect_turns(self):
        for turns in range(20):
            gates = [("W", ())] * (turns // 2) + [("T", (0,)), ("CX", (0, 1))]
            gates += [("W", ())] * (turns - turns // 2) + [("H", (1,))]
            before = list(gates)
            got = collect_turns(gates)
            self.assertIs(type(got), list)
            self.assertEqual(
                got, [("T", (0,)), ("CX", (0, 1)), ("H", (1,))] + [("W", ())] * (turns % 8))
            self.assertEqual(gates, before)
            got.append("more")
            self.assertEqual(gates, before)

    def test_collect_turns_without_any(self):
        self.assertEqual(collect_turns([]), [])
        gates = [("T", (0,))]
        collect_turns(gates).append("more")
        self.assertEqual(gates, [("T", (0,))])

    def test_used_qubits(self):
        self.assertEqual(used_qubits([]), [])
        self.assertEqual(used_qubits([("W", ())]), [])
        self.assertEqual(
            used_qubits([("CX", (7, 2)), ("H", (7,)), ("W", ()), ("SWAP", (40, 0))]), [0, 2, 7, 40])
        many = [("H", (qubit,)) for qubit in (300, 5, 17, 5, 64, 1, 0, 128)]
        self.assertIs(type(used_qubits(many)), list)
        self.assertEqual(used_qubits(many), [0, 1, 5, 17, 64, 128, 300])


if __name__ == "__main__":
    unittest.main()
