"""Time steps and the depth (point 64)."""

import itertools
import unittest

from phasor.timing import depth, time_steps
from tests.cases import W, GatesCase
from tests.plain import all_gates, drawn_gates


def plain_steps(gates):
    """The time steps, gate by gate, from all earlier gates."""
    steps = []
    for index, (kind, qubits) in enumerate(gates):
        earlier = [
            steps[k] for k, (_, others) in enumerate(gates[:index]) if set(others) & set(qubits)]
        steps.append(0 if kind == "W" else 1 + max(earlier, default=0))
    return steps


def longest_chain(gates):
    """The greatest number of gates of which each shares a qubit with the next one."""
    lengths = []
    for index, (kind, qubits) in enumerate(gates):
        before = [lengths[k] for k in range(index) if set(gates[k][1]) & set(qubits)]
        lengths.append((kind != "W") + max(before, default=0))
    return max(lengths, default=0)


class TimingTest(GatesCase):
    def assert_timed(self, gates):
        given = list(gates)
        steps = time_steps(gates)
        self.assertIs(type(steps), list)
        self.assertEqual(steps, plain_steps(gates))
        self.assertEqual(depth(gates), max(steps, default=0))
        self.assertEqual(depth(gates), longest_chain(gates))
        self.assertEqual(gates, given)
        for (one, step), (other, same) in itertools.combinations(zip(gates, steps), 2):
            if step == same:
                self.assertFalse(set(one[1]) & set(other[1]))
        steps.append("more")
        self.assertEqual(time_steps(gates) + ["more"], steps)
        return steps[:-1]

    def test_no_gates_and_turns(self):
        self.assertEqual(self.assert_timed([]), [])
        self.assertEqual(depth([]), 0)
        self.assertEqual(self.assert_timed([W] * 3), [0, 0, 0])
        self.assertEqual(depth([W] * 3), 0)

    def test_each_gate_alone_and_pairs(self):
        gates = all_gates(3)
        for one, other in itertools.product(gates, repeat=2):
            self.assert_timed([one])
            self.assert_timed([one, other])

    def test_known_steps(self):
        gates = [("H", (0,)), W, ("T", (1,)), ("CX", (0, 1)), ("S", (2,)), W, ("CZ", (1, 2)),
                 ("X", (0,)), ("SWAP", (0, 2)), ("T", (3,))]
        self.assertEqual(self.assert_timed(gates), [1, 0, 1, 2, 1, 0, 3, 3, 4, 1])
        self.assertEqual(depth(gates), 4)

    def test_drawn_gates(self):
        for width in range(1, 7):
            for seed in range(6):
                self.assert_timed(drawn_gates(seed, width, 10 * seed))


if __name__ == "__main__":
    unittest.main()
