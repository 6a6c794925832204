"""Gates that commute, and pairs of gates that cancel (points 47 and 48)."""

import itertools
import unittest

from phasor.cancelling import cancel, gates_commute
from tests.cases import W, GatesCase
from tests.plain import all_gates, drawn_gates, other_than_w, sparse_step

INVERSES = {"S": "SDG", "SDG": "S", "T": "TDG", "TDG": "T"}

# Whether two gates commute, by trying, for each pair that was asked for.
TRIED = {}


def tried(first, second):
    """Whether both orders give the same state from every basis state of all qubits."""
    if (first, second) not in TRIED:
        width = max(first[1] + second[1], default=0) + 1
        TRIED[first, second] = all(
            both_orders_agree(start, first, second) for start in range(2 ** width))
    return TRIED[first, second]


def both_orders_agree(start, first, second):
    state = {start: (1, 0, 0, 0)}
    one = sparse_step(sparse_step(state, first), second)
    return one == sparse_step(sparse_step(state, second), first)


def pairs_that_cancel(gates):
    """All pairs of point 48."""
    pairs = []
    for i, (kind, qubits) in enumerate(gates):
        if kind == "W":
            continue
        for j in range(i + 1, len(gates)):
            if gates[j] == (INVERSES.get(kind, kind), qubits):
                pairs.append((i, j))
            if not tried(gates[i], gates[j]):
                break
    return pairs


def is_part(some, gates):
    """Whether some gates are gates of the list, in their order."""
    at = 0
    for gate in gates:
        if at < len(some) and some[at] == gate:
            at += 1
    return at == len(some)


class CommuteTest(unittest.TestCase):
    def assert_commute(self, first, second):
        found = gates_commute(first, second)
        self.assertIs(found, tried(first, second), (first, second))
        return found

    def test_all_pairs_on_three_qubits(self):
        for first, second in itertools.product(all_gates(3), repeat=2):
            self.assert_commute(first, second)

    def test_all_pairs_on_four_qubits(self):
        for first, second in itertools.product(all_gates(4, ("CX", "CZ", "SWAP")), repeat=2):
            self.assert_commute(first, second)

    def test_examples(self):
        cx = ("CX", (0, 1))
        for other in (("CX", (0, 2)), ("T", (0,)), ("X", (1,)), cx, W, ("H", (5,))):
            self.assertIs(gates_commute(cx, other), True)
            self.assertIs(gates_commute(other, cx), True)
        for other in (("CX", (1, 0)), ("CX", (1, 2)), ("T", (1,)), ("X", (0,)), ("H", (0,))):
            self.assertIs(gates_commute(cx, other), False)
        self.assertIs(gates_commute(("X", (0,)), ("Z", (0,))), False)
        self.assertIs(gates_commute(("X", (0,)), ("Z", (1,))), True)

    def test_both_orders_of_the_qubits(self):
        for kind in ("CZ", "SWAP"):
            self.assertIs(gates_commute((kind, (0, 1)), (kind, (1, 0))), True)
        self.assertIs(gates_commute(("SWAP", (0, 1)), ("CZ", (1, 0))), True)
        self.assertIs(gates_commute(("SWAP", (0, 1)), ("CZ", (1, 2))), False)

    def test_far_qubits(self):
        self.assertIs(gates_commute(("CX", (900, 3)), ("CZ", (900, 7))), True)
        self.assertIs(gates_commute(("CX", (900, 3)), ("CZ", (3, 7))), False)


class CancelTest(GatesCase):
    def assert_cancelled(self, width, gates):
        result = self.assert_pass(cancel, width, gates)
        self.assertTrue(is_part(other_than_w(result), gates))
        self.assertEqual(pairs_that_cancel(result), [])
        return result

    def test_no_gates_and_turns(self):
        self.assertEqual(self.assert_cancelled(2, []), [])
        for turns in range(20):
            self.assertEqual(self.assert_cancelled(2, [W] * turns), [W] * (turns % 8))

    def test_each_gate_with_each_gate(self):
        for first, second in itertools.product(all_gates(2), repeat=2):
            gates = [first, second]
            result = self.assert_cancelled(2, gates)
            inverse = (INVERSES.get(first[0], first[0]), first[1])
            self.assertEqual(
                other_than_w(result),
                [] if second == inverse else other_than_w(gates))

    def test_gates_between(self):
        for first in all_gates(2):
            for between in all_gates(2):
                inverse = (INVERSES.get(first[0], first[0]), first[1])
                self.assert_cancelled(2, [first, between, inverse])
                self.assert_cancelled(2, [first, between, W, between, inverse, first])

    def test_both_orders_of_the_qubits(self):
        """These gates have the same operator, but they are different gates."""
        for kind in ("CZ", "SWAP"):
            a, b = (kind, (0, 1)), (kind, (1, 0))
            self.assertEqual(self.assert_cancelled(2, [a, b]), [a, b])
            self.assertEqual(self.assert_cancelled(2, [a, a]), [])
            self.assertEqual(self.assert_cancelled(2, [a, b, a]), [b])
            self.assertEqual(self.assert_cancelled(2, [a, b, b, a]), [])

    def test_after_another_pair_was_removed(self):
        h, x, z, s, sdg = [(kind, (0,)) for kind in ("H", "X", "Z", "S", "SDG")]
        cx = ("CX", (0, 1))
        for gates in ([h, x, x, h], [h, s, x, x, sdg, h], [x, h, z, z, h, x],
                      [cx, h, cx, cx, h, cx], [cx, ("T", (1,)), ("TDG", (1,)), cx],
                      [h, x, z, z, ("X", (1,)), x, ("X", (1,)), h]):
            self.assertEqual(self.assert_cancelled(2, gates), [])

    def test_gates_that_commute_between(self):
        cx, t, x = ("CX", (0, 1)), ("T", (0,)), ("X", (1,))
        self.assertEqual(self.assert_cancelled(3, [cx, t, x, ("CX", (0, 2)), cx]),
                         [t, x, ("CX", (0, 2))])
        self.assertEqual(self.assert_cancelled(2, [cx, ("T", (1,)), cx]), [cx, ("T", (1,)), cx])

    def test_turns_between(self):
        h = ("H", (0,))
        self.assertEqual(self.assert_cancelled(1, [W, h, W, W, h] + [W] * 6), [W])

    def test_drawn_gates(self):
        removed = 0
        for width in (1, 2, 3, 4):
            for seed in range(12):
                gates = drawn_gates(seed, width, 10 + 5 * seed)
                removed += len(gates) - len(self.assert_cancelled(width, gates))
        self.assertGreater(removed, 100)

    def test_few_kinds(self):
        for kinds in (("CX", "T", "TDG"), ("H", "CZ", "W"), ("X", "CX", "SWAP"), ("T", "TDG")):
            for seed in range(6):
                self.assert_cancelled(3, drawn_gates(seed, 3, 40, kinds))

    def test_wide_lists(self):
        for width in (6, 8):
            gates = drawn_gates(width, width, 200, ("CX", "CZ", "T", "TDG", "X", "S", "SDG"))
            self.assert_cancelled(width, gates)


if __name__ == "__main__":
    unittest.main()
