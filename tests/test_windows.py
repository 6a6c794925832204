"""Passes over runs, stretches and sections (points 49 to 52)."""

import unittest

from phasor.windows import reduce_runs, reduce_sections, shorten_cliffords
from tests.cases import W, GatesCase
from tests.plain import CLIFFORD_KINDS, all_gates, drawn_gates, other_than_w, t_count
from tests.test_bloch import plain_exponent
from tests.test_codes import DEGREE_WORDS, distance, word_of

NO_H = ("X", "Y", "Z", "S", "SDG", "T", "TDG", "CX", "CZ", "SWAP", "W")
ONE_QUBIT = ("H", "X", "Y", "Z", "S", "SDG", "T", "TDG", "W")


def runs_of(width, gates):
    """The words of the runs that have gates."""
    runs = []
    for qubit in range(width):
        word = []
        for kind, qubits in gates:
            if qubits == (qubit,):
                word.append(kind)
            elif qubit in qubits:
                runs.append(word)
                word = []
        runs.append(word)
    return [word for word in runs if word]


def parts_of(gates, borders):
    """The sequences of consecutive gates that are not of these kinds."""
    parts = [[]]
    for gate in gates:
        if gate[0] in borders:
            parts.append([])
        else:
            parts[-1].append(gate)
    return parts


def least_t_of_section(width, section):
    """The least number of odd terms, by trying all code words."""
    masks = [1 << qubit for qubit in range(width)]
    odd = 0
    for kind, qubits in section:
        if kind in ("T", "TDG"):
            odd ^= word_of([masks[qubits[0]]])
        elif kind == "CX":
            masks[qubits[1]] ^= masks[qubits[0]]
        elif kind == "SWAP":
            a, b = qubits
            masks[a], masks[b] = masks[b], masks[a]
    return min(distance(odd, code) for code in DEGREE_WORDS[width])


def t_gates(gates):
    return [gate for gate in gates if gate[0] in ("T", "TDG")]


def two_qubit_gates(gates):
    return [gate for gate in gates if len(gate[1]) == 2]


def of_kind(gates, kind):
    return [gate for gate in gates if gate[0] == kind]


class RunsTest(GatesCase):
    def assert_runs(self, width, gates):
        result = self.assert_pass(reduce_runs, width, gates)
        self.assertEqual(two_qubit_gates(result), two_qubit_gates(gates))
        for word in runs_of(width, result):
            count = sum(1 for kind in word if kind in ("T", "TDG"))
            self.assertEqual(count, plain_exponent(tuple(word)))
        self.assertEqual(
            t_count(result), sum(plain_exponent(tuple(word)) for word in runs_of(width, gates)))
        return result

    def test_no_gates_and_turns(self):
        self.assertEqual(self.assert_runs(3, []), [])
        for turns in range(20):
            self.assertEqual(self.assert_runs(2, [W] * turns), [W] * (turns % 8))

    def test_each_gate_alone(self):
        for gate in all_gates(3):
            self.assertEqual(self.assert_runs(3, [gate]), [gate])

    def test_no_t_gates(self):
        for seed in range(4):
            self.assert_runs(3, drawn_gates(seed, 3, 40, CLIFFORD_KINDS))

    def test_one_qubit(self):
        for seed in range(12):
            self.assert_runs(1, drawn_gates(seed, 1, 8 * seed))

    def test_drawn_gates(self):
        for width in (2, 3, 4):
            for seed in range(8):
                self.assert_runs(width, drawn_gates(seed, width, 20 * width + 4 * seed))

    def test_without_two_qubit_gates(self):
        for seed in range(4):
            self.assert_runs(3, drawn_gates(seed, 3, 60, ONE_QUBIT))

    def test_gates_between_the_gates_of_a_run(self):
        """W and gates on other qubits stand between the gates of a run."""
        t, h = ("T", (0,)), ("H", (0,))
        gates = [t, W, ("H", (1,)), t, ("CX", (1, 2)), W, h, ("T", (2,)), h, t, W, ("CZ", (2, 1)), t]
        result = self.assert_runs(3, gates)
        self.assertEqual([g for g in t_gates(result) if g[1] == (0,)], [])
        gates[4] = ("CX", (1, 0))
        result = self.assert_runs(3, gates)
        self.assertEqual([g for g in t_gates(result) if g[1] == (0,)], [])
        gates[4], gates[3] = gates[3], gates[4]
        self.assertEqual(len([g for g in t_gates(self.assert_runs(3, gates)) if g[1] == (0,)]), 2)

    def test_many_turns(self):
        gates = [W] * 9 + [("T", (0,)), ("X", (0,))] * 6 + [W] * 4 + [("H", (0,)), ("T", (0,))] * 5
        self.assert_runs(1, gates)

    def test_known_runs(self):
        cases = ((["T", "T"], 0), (["T", "X", "T"], 0), (["T", "H", "T"], 2),
                 (["T", "H", "H", "TDG"], 0), (["T", "H", "S", "S", "H", "T"], 0),
                 (["T", "H", "T", "H", "T", "TDG", "T"], 3), (["T", "S", "T", "H", "T", "T"], 0))
        for word, count in cases:
            gates = [(kind, (1,)) for kind in word]
            self.assertEqual(t_count(self.assert_runs(2, gates)), count)

    def test_wide_lists(self):
        for width in (6, 8):
            gates = drawn_gates(width, width, 24 * width)
            result = reduce_runs(width, gates)
            self.assertEqual(two_qubit_gates(result), two_qubit_gates(gates))
            self.assertEqual(
                t_count(result), sum(plain_exponent(tuple(word)) for word in runs_of(width, gates)))
            self.assert_turns_at_end(result)
            self.assert_same(width, reduce_runs(width, gates[:30]), gates[:30])


class StretchesTest(GatesCase):
    def assert_short(self, width, gates):
        result = self.assert_pass(shorten_cliffords, width, gates)
        self.assert_stretches(width, gates, result)
        return result

    def assert_stretches(self, width, gates, result):
        self.assertEqual(t_gates(result), t_gates(gates))
        self.assertLessEqual(len(other_than_w(result)), len(other_than_w(gates)))
        if width <= 6:
            for stretch in parts_of(other_than_w(result), ("T", "TDG")):
                self.assertLessEqual(len(stretch), 4 * width * width + 10 * width)

    def test_no_gates_and_turns(self):
        self.assertEqual(self.assert_short(3, []), [])
        for turns in range(20):
            self.assertEqual(self.assert_short(2, [W] * turns), [W] * (turns % 8))

    def test_each_gate_alone(self):
        for gate in all_gates(3):
            self.assertEqual(self.assert_short(3, [gate]), [gate])

    def test_t_gates_alone(self):
        gates = drawn_gates(1, 3, 30, ("T", "TDG", "W"))
        self.assertEqual(t_gates(gates), t_gates(self.assert_short(3, gates)))

    def test_long_stretches(self):
        for width in (1, 2, 3):
            limit = 4 * width * width + 10 * width
            for seed in range(4):
                gates = drawn_gates(seed, width, 2 * limit, CLIFFORD_KINDS)
                more = drawn_gates(seed + 9, width, limit + 1, ("H", "S") if width == 1 else ("CX",))
                self.assert_short(width, gates)
                self.assert_short(width, gates + [("T", (0,))] + more + [("TDG", (0,)), W] + gates)

    def test_long_stretches_with_few_two_qubit_gates(self):
        """Fewer two-qubit gates do not excuse a stretch that is too long."""
        for width, kinds in ((2, ("CX",)), (3, ("CX", "CZ")), (4, ("CX", "SWAP"))):
            limit = 4 * width * width + 10 * width
            for seed in range(8):
                gates = []
                for k in range(3):
                    gates += drawn_gates(10 * seed + k, width, 1, kinds)
                    gates += drawn_gates(10 * seed + k, width, limit // 3 + 1, ("H", "S", "X"))
                self.assert_short(width, gates)

    def test_long_stretches_of_four_qubits(self):
        gates = drawn_gates(3, 4, 150, CLIFFORD_KINDS)
        self.assert_short(4, gates + [("T", (3,))] + gates)

    def test_around_the_limit(self):
        """Lists that do not become shorter by much."""
        for width in (1, 2):
            limit = 4 * width * width + 10 * width
            for length in (limit - 1, limit, limit + 1):
                for seed in range(3):
                    self.assert_short(
                        width, drawn_gates(seed, width, length, ("H", "S", "SDG", "CX")))

    def test_turns_in_a_stretch(self):
        """W does not count, and a stretch goes on behind it."""
        h, s = ("H", (0,)), ("S", (0,))
        gates = [h, W, h, s, W, s, W, s, W, s] + [W] * 7
        self.assertEqual(self.assert_short(1, gates), [W] * 3)
        self.assert_short(1, [h, s] * 30 + [W] * 5 + [h, s] * 30 + [("T", (0,)), W, ("T", (0,))])

    def test_drawn_gates(self):
        for width in (1, 2, 3, 4):
            for seed in range(6):
                self.assert_short(width, drawn_gates(seed, width, 30 + 10 * seed))

    def test_few_t_gates(self):
        shorter = 0
        for width in (2, 3):
            for seed in range(6):
                cliffords = drawn_gates(seed, width, 60, CLIFFORD_KINDS)
                gates = cliffords[:30] + [("T", (seed % width,))] + cliffords[30:]
                result = self.assert_short(width, gates)
                shorter += len(other_than_w(gates)) - len(other_than_w(result))
        self.assertGreater(shorter, 50)

    def test_wide_lists(self):
        for width in (5, 6, 7, 8):
            gates = drawn_gates(width, width, 250, CLIFFORD_KINDS)
            gates += [("TDG", (width - 1,))] + drawn_gates(9, width, 40)
            result = shorten_cliffords(width, gates)
            self.assert_gates(width, result)
            self.assert_stretches(width, gates, result)
            self.assert_turns_at_end(result)
            self.assert_same(width, shorten_cliffords(width, gates[240:270]), gates[240:270])
        gates = drawn_gates(6, 6, 40, ("CX", "S", "X", "CZ")) * 6
        self.assert_short(6, gates)


class SectionsTest(GatesCase):
    def assert_sections(self, width, gates):
        result = self.assert_pass(reduce_sections, width, gates)
        self.assert_few_t(width, gates, result)
        return result

    def assert_few_t(self, width, gates, result):
        self.assertEqual(of_kind(result, "H"), of_kind(gates, "H"))
        sections = parts_of(gates, ("H",))
        found = parts_of(result, ("H",))
        self.assertEqual(len(found), len(sections))
        for given, section in zip(sections, found):
            if width <= 5:
                self.assertEqual(t_count(section), least_t_of_section(width, section))
                self.assertEqual(t_count(section), least_t_of_section(width, given))
            else:
                self.assertLessEqual(t_count(section), t_count(given))

    def test_no_gates_and_turns(self):
        self.assertEqual(self.assert_sections(3, []), [])
        for turns in range(20):
            self.assertEqual(self.assert_sections(2, [W] * turns), [W] * (turns % 8))

    def test_each_gate_alone(self):
        for gate in all_gates(3):
            self.assertEqual(self.assert_sections(3, [gate]), [gate])

    def test_h_alone(self):
        gates = drawn_gates(2, 3, 20, ("H",))
        self.assertEqual(self.assert_sections(3, gates), gates)

    def test_no_t_gates(self):
        for width in (1, 2, 3):
            self.assert_sections(width, drawn_gates(width, width, 40, CLIFFORD_KINDS))

    def test_without_h(self):
        for width in (1, 2, 3, 4, 5):
            for seed in range(4):
                self.assert_sections(width, drawn_gates(seed, width, 25 * width, NO_H))

    def test_drawn_gates(self):
        for width in (1, 2, 3, 4):
            for seed in range(8):
                self.assert_sections(width, drawn_gates(seed, width, 30 + 10 * seed))

    def test_few_gates_h(self):
        for width in (3, 4, 5):
            for seed in range(3):
                gates = drawn_gates(seed, width, 70, ("CX", "T", "TDG", "S", "X", "W"))
                gates = gates[:35] + [("H", (0,)), W, ("H", (1,))] + gates[35:]
                self.assert_sections(width, gates)

    def fifteen(self, steps):
        """T or TDG on each of the fifteen parities of four qubits."""
        gates = []
        for mask in range(1, 16):
            target, *others = [qubit for qubit in range(4) if (mask >> qubit) & 1]
            ladder = [("CX", (qubit, target)) for qubit in others]
            gates += ladder + [("T" if steps == 1 else "TDG", (target,))] + ladder[::-1]
        return gates

    def test_fifteen_parities(self):
        for steps in (1, 7):
            gates = self.fifteen(steps)
            self.assertEqual(t_count(self.assert_sections(4, gates)), 0)
            self.assertEqual(t_count(self.assert_sections(5, gates)), 0)
            with_h = gates + [("H", (2,)), ("T", (2,))] + gates
            self.assertEqual(t_count(self.assert_sections(4, with_h)), 1)

    def test_gates_that_stand_apart(self):
        t = ("T", (0,))
        for gates, count in (([t, ("CX", (0, 1)), t], 0), ([t, ("CX", (1, 0)), t], 2),
                             ([t, ("X", (0,)), t], 0), ([t, ("H", (1,)), t], 2),
                             ([t, ("SWAP", (0, 1)), ("T", (1,))], 0), ([t] * 5, 1)):
            self.assertEqual(t_count(self.assert_sections(2, gates)), count)

    def test_many_turns(self):
        gates = [W] * 6 + [("T", (0,)), ("X", (0,)), ("TDG", (0,)), ("Y", (0,)), W] * 3
        self.assert_sections(1, gates + [("H", (0,))] + gates)

    def test_wide_lists(self):
        for width in (6, 7, 8):
            for kinds in (NO_H, NO_H + ("H",)):
                gates = drawn_gates(width, width, 150, kinds)
                result = reduce_sections(width, gates)
                self.assert_gates(width, result)
                self.assert_turns_at_end(result)
                self.assert_few_t(width, gates, result)
                self.assert_same(width, reduce_sections(width, gates[:40]), gates[:40])


if __name__ == "__main__":
    unittest.main()
