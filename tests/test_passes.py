"""The seven passes, the cost, and optimizing (points 52 to 54)."""

import itertools
import unittest

from phasor.cancelling import cancel
from phasor.circuit import Circuit
from phasor.errors import UnknownPass
from phasor.folding import fold_phases
from phasor.layers import layer_t
from phasor.macros import macro_gates
from phasor.merging import merge_t
from phasor.passes import PASSES, cost, optimize, run_pass
from phasor.windows import reduce_runs, reduce_sections, shorten_cliffords
from tests.cases import W, GatesCase
from tests.plain import CLIFFORD_KINDS, all_gates, drawn_gates, other_than_w, t_count

NAMES = ("cancel", "fold", "runs", "rotations", "layers", "sections", "cliffords")

FUNCTIONS = {
    "cancel": cancel, "fold": fold_phases, "runs": reduce_runs, "rotations": merge_t,
    "layers": layer_t, "sections": reduce_sections, "cliffords": shorten_cliffords,
}

MANY_T = ("H", "T", "TDG", "CX", "S", "X")


def plain_cost(circuit):
    two = sum(1 for _, qubits in circuit.gates if len(qubits) == 2)
    return (t_count(circuit.gates), two, len(other_than_w(circuit.gates)))


def plain_optimize(circuit, passes, rounds):
    """The rounds of point 54, step by step."""
    current = circuit
    for _ in range(rounds):
        changed = False
        for name in passes:
            result = run_pass(name, current)
            if plain_cost(result) < plain_cost(current):
                current = result
                changed = True
        if not changed:
            break
    return current


class PassesCase(GatesCase):
    def assert_circuit(self, circuit, width, gates):
        self.assertIs(type(circuit), Circuit)
        self.assertEqual((circuit.width, circuit.gates), (width, gates))


class RunPassTest(PassesCase):
    def assert_passed(self, name, width, gates):
        """The result of a pass. The given circuit does not change."""
        circuit = Circuit(width, gates)
        result = run_pass(name, circuit)
        self.assertIsNot(result, circuit)
        self.assert_circuit(circuit, width, gates)
        self.assert_circuit(result, width, FUNCTIONS[name](width, gates))
        self.assert_gates(width, result.gates)
        self.assert_turns_at_end(result.gates)
        self.assert_same(width, result.gates, gates)
        self.assertLessEqual(t_count(result.gates), t_count(gates))
        # Later changes of the result do not reach the given circuit, and the other way round.
        result.add("T", 0)
        circuit.add("X", 0)
        self.assertEqual(circuit.gates, gates + [("X", (0,))])
        self.assertEqual(result.gates[-1], ("T", (0,)))

    def test_names(self):
        self.assertEqual(PASSES, NAMES)
        self.assertIs(type(PASSES), tuple)

    def test_no_gates_and_turns(self):
        for name in NAMES:
            self.assert_passed(name, 3, [])
            for turns in (1, 7, 8, 20):
                self.assert_passed(name, 1, [W] * turns)

    def test_each_gate_alone_and_twice(self):
        for name in NAMES:
            for gate in all_gates(2):
                self.assert_passed(name, 2, [gate])
                self.assert_passed(name, 2, [gate, W, gate])

    def test_drawn_gates(self):
        for name in NAMES:
            for width in (1, 2, 3, 4, 5):
                for seed in range(3):
                    self.assert_passed(name, width, drawn_gates(seed, width, 12 * width + 6))
                    self.assert_passed(name, width, drawn_gates(seed, width, 40, MANY_T))

    def test_clifford_gates(self):
        for name in NAMES:
            for width in (2, 3):
                gates = drawn_gates(width, width, 60, CLIFFORD_KINDS)
                self.assert_passed(name, width, gates)
                self.assertEqual(run_pass(name, Circuit(width, gates)).count_t(), 0)

    def test_wide_circuits(self):
        for name in NAMES:
            for width in (6, 7):
                self.assert_passed(name, width, drawn_gates(width, width, 40))

    def test_macros(self):
        gates = macro_gates("CCX", (0, 1, 2)) + macro_gates("CSWAP", (2, 0, 1))
        for name in NAMES:
            self.assert_passed(name, 3, gates)

    def test_unknown_names(self):
        for name in ("", "CANCEL", "cancel ", "fold_phases", "all", "t"):
            circuit = Circuit(1, [("T", (0,))])
            self.assert_error(UnknownPass, run_pass, name, circuit)
            self.assert_circuit(circuit, 1, [("T", (0,))])


class CostTest(PassesCase):
    def test_known_costs(self):
        gates = [("T", (0,)), W, ("CX", (0, 1)), ("SWAP", (1, 0)), ("CZ", (0, 1)), W,
                 ("TDG", (1,)), ("H", (0,)), ("S", (1,))]
        self.assertEqual(cost(Circuit(2, gates)), (2, 3, 7))
        self.assertEqual(cost(Circuit(2)), (0, 0, 0))
        self.assertEqual(cost(Circuit(2, [W] * 9)), (0, 0, 0))

    def test_drawn_gates(self):
        for seed in range(20):
            circuit = Circuit(3, drawn_gates(seed, 3, 3 * seed))
            found = cost(circuit)
            self.assertIs(type(found), tuple)
            self.assertEqual(found, plain_cost(circuit))
            self.assertEqual(len(circuit), 3 * seed)


class OptimizeTest(PassesCase):
    def assert_optimized(self, width, gates, passes, rounds):
        """The result of optimizing, held against the rounds step by step."""
        circuit = Circuit(width, gates)
        given = list(passes)
        result = optimize(circuit, passes=passes, rounds=rounds)
        self.assertIsNot(result, circuit)
        self.assertEqual(list(passes), given)
        self.assert_circuit(circuit, width, gates)
        wanted = plain_optimize(circuit, passes, rounds)
        self.assert_circuit(result, width, wanted.gates)
        self.assert_same(width, result.gates, gates)
        self.assertLessEqual(t_count(result.gates), t_count(gates))
        self.assertLessEqual(plain_cost(result), plain_cost(circuit))
        result.add("X", 0)
        self.assert_circuit(circuit, width, gates)
        return wanted.gates

    def test_defaults(self):
        for seed in range(6):
            gates = drawn_gates(seed, 3, 50)
            circuit = Circuit(3, gates)
            wanted = self.assert_optimized(3, gates, NAMES, 2)
            self.assertEqual(optimize(circuit).gates, wanted)
            self.assertEqual(optimize(circuit, rounds=2).gates, wanted)
            self.assertEqual(optimize(circuit, passes=NAMES).gates, wanted)

    def test_no_passes_and_no_rounds(self):
        gates = [W] * 9 + [("T", (0,)), ("T", (0,)), ("X", (0,)), ("X", (0,)), W]
        for passes, rounds in (((), 2), ([], 5), (NAMES, 0), ([], 0)):
            self.assertEqual(self.assert_optimized(1, gates, passes, rounds), gates)

    def test_nothing_cheaper(self):
        """Gates W cost nothing, so a list that is otherwise least stays as it is."""
        for gates in ([], [W] * 20, [W, ("T", (0,)), W], [("H", (1,)), W, ("CX", (1, 0))]):
            self.assertEqual(self.assert_optimized(2, gates, NAMES, 3), gates)

    def test_each_pass_and_pairs_of_passes(self):
        for width in (2, 3):
            gates = drawn_gates(width, width, 40, MANY_T)
            for name in NAMES:
                for rounds in (1, 2, 3):
                    self.assert_optimized(width, gates, [name], rounds)
            for pair in itertools.permutations(NAMES, 2):
                self.assert_optimized(width, gates[:25], pair, 2)

    def test_more_rounds(self):
        """Some circuits become cheaper in the second round, some in later ones."""
        later = 0
        for seed in range(20):
            gates = drawn_gates(seed, 3, 60, ("H", "T", "CX", "CZ", "S"))
            results = [self.assert_optimized(3, gates, NAMES, rounds) for rounds in (1, 2, 3)]
            later += results[0] != results[1]
        self.assertGreater(later, 0)

    def test_ends_when_nothing_changes(self):
        """So many rounds would take years, were they all executed."""
        gates = drawn_gates(1, 3, 40)
        self.assert_optimized(3, gates, NAMES, 10 ** 12)
        self.assert_optimized(3, gates, [], 10 ** 12)

    def test_passes_given_twice(self):
        gates = drawn_gates(5, 3, 50)
        self.assert_optimized(3, gates, ["fold", "fold", "cancel", "fold"], 1)

    def test_known_results(self):
        t = ("T", (0,))
        self.assertEqual(optimize(Circuit(1, [t, t])).gates, [("S", (0,))])
        self.assertEqual(optimize(Circuit(1, [t, ("X", (0,)), t])).count_t(), 0)
        ccz = macro_gates("CCZ", (0, 1, 2))
        self.assertEqual(optimize(Circuit(3, ccz)).count_t(), 7)
        self.assertEqual(cost(optimize(Circuit(3, ccz + ccz)))[0], 0)

    def test_drawn_gates(self):
        for width in (1, 2, 4, 5, 6):
            for seed in range(3):
                self.assert_optimized(width, drawn_gates(seed, width, 45), NAMES, 2)
                self.assert_optimized(width, drawn_gates(seed, width, 30, MANY_T), NAMES[::-1], 2)

    def test_unknown_names(self):
        for passes in (["x"], ["cancel", "Cancel"], (*NAMES, ""), ["runs", "x", "fold"]):
            for rounds in (0, 1, 2):
                circuit = Circuit(1, [("T", (0,)), ("T", (0,))])
                with self.assertRaises(UnknownPass) as caught:
                    optimize(circuit, passes=passes, rounds=rounds)
                self.assertIs(type(caught.exception), UnknownPass)
                self.assert_circuit(circuit, 1, [("T", (0,)), ("T", (0,))])


if __name__ == "__main__":
    unittest.main()
