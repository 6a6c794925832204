"""Networks, and the gates of a phase polynomial (points 32 and 33)."""

import itertools
import unittest
from random import Random

from phasor.errors import NotPhaseOnly
from phasor.network import network_masks, parity_network, polynomial_gates
from phasor.polynomial import PhasePolynomial, polynomial_of
from tests.cases import GatesCase
from tests.plain import ALL_KINDS, SIZES, all_gates, drawn_gates, t_count
from tests.test_polynomial import (
    PHASE_KINDS, drawn_polynomial, effect_by_gates, effect_of_parts, state_of,
)


def plain_masks(width, gates):
    """The masks that appear, each once, in order, with sets of qubits instead of masks."""
    carried = [frozenset([qubit]) for qubit in range(width)]
    found = list(carried)
    for _, (control, target) in gates:
        carried[target] = carried[target] ^ carried[control]
        if carried[target] not in found:
            found.append(carried[target])
    return [sum(2 ** qubit for qubit in members) for members in found]


class NetworkMasksTest(GatesCase):
    def assert_masks(self, width, gates):
        given = list(gates)
        masks = network_masks(width, gates)
        self.assertIs(type(masks), list)
        self.assertEqual(masks, plain_masks(width, gates))
        masks.append("more")
        self.assertEqual(network_masks(width, gates) + ["more"], masks)
        self.assertEqual(gates, given)

    def test_no_gates(self):
        for width in range(1, 9):
            self.assertEqual(network_masks(width, []), [2 ** qubit for qubit in range(width)])

    def test_masks_appear_once(self):
        gates = [("CX", (0, 1)), ("CX", (1, 2)), ("CX", (0, 1)), ("CX", (0, 1))]
        self.assertEqual(network_masks(3, gates), [1, 2, 4, 3, 7])
        self.assert_masks(3, gates)

    def test_drawn_networks(self):
        for width in range(2, 9):
            for seed in range(5):
                self.assert_masks(width, drawn_gates(seed, width, 6 * width, ("CX",)))

    def test_other_gates(self):
        for kind in ALL_KINDS:
            if kind != "CX":
                wrong = (kind, (1, 2)[:SIZES.get(kind, 1)])
                for gates in ([wrong], [("CX", (0, 1)), wrong], [wrong, ("CX", (0, 1))]):
                    given = list(gates)
                    self.assert_error(NotPhaseOnly, network_masks, 3, gates)
                    self.assertEqual(gates, given)


class ParityNetworkTest(GatesCase):
    def assert_network(self, width, masks):
        given = list(masks)
        gates = parity_network(width, masks)
        self.assertEqual(masks, given)
        self.assert_gates(width, gates, ("CX",))
        self.assertLessEqual(set(masks), set(plain_masks(width, gates)))
        gates.append("more")
        self.assertEqual(parity_network(width, masks) + ["more"], gates)

    def test_all_lists(self):
        for width in (1, 2, 3):
            masks = range(1, 2 ** width)
            for count in range(len(masks) + 1):
                for chosen in itertools.combinations(masks, count):
                    self.assert_network(width, list(chosen))

    def test_all_masks(self):
        for width in range(1, 9):
            self.assert_network(width, list(range(1, 2 ** width)))

    def test_single_masks(self):
        for width in range(4, 9):
            for mask in (1, 2 ** width - 1, 2 ** (width - 1), 2 ** (width - 1) + 5):
                self.assert_network(width, [mask])
            self.assert_network(width, [])

    def test_drawn_masks(self):
        random = Random(2)
        for width in range(4, 9):
            for count in (2, 3, 5, 9, 12):
                self.assert_network(width, sorted(random.sample(range(1, 2 ** width), count)))


class PolynomialGatesTest(GatesCase):
    def assert_polynomial_gates(self, polynomial):
        before = state_of(polynomial)
        width = polynomial.width
        gates = polynomial_gates(polynomial)
        self.assertEqual(state_of(polynomial), before)
        self.assert_gates(width, gates, PHASE_KINDS)
        odd = sum(1 for _, steps in polynomial.terms if steps % 2)
        self.assertEqual(t_count(gates), odd)
        self.assertLessEqual(gates.count(("W", ())), 7)
        for index in range(2 ** width):
            self.assertEqual(effect_by_gates(gates, index), effect_of_parts(polynomial, index))
        gates.append("more")
        self.assertEqual(polynomial_gates(polynomial) + ["more"], gates)

    def test_identity(self):
        for width in (1, 2, 5, 8):
            self.assert_polynomial_gates(PhasePolynomial(width))

    def test_each_gate(self):
        for width in (1, 2, 3):
            for gate in all_gates(width, PHASE_KINDS):
                self.assert_polynomial_gates(polynomial_of(width, [gate]))

    def test_drawn_polynomials(self):
        for width in range(1, 9):
            for seed in range(8 if width < 6 else 2):
                self.assert_polynomial_gates(drawn_polynomial(seed, width))

    def test_each_number_of_steps(self):
        for width, mask in ((1, 1), (2, 3), (4, 9), (8, 255)):
            for steps in range(8):
                polynomial = drawn_polynomial(steps, width, 3)
                polynomial.add_term(mask, steps)
                self.assert_polynomial_gates(polynomial)

    def test_turns_and_flips_alone(self):
        for count in range(10):
            gates = [("W", ())] * count + [("X", (2,))] * (count % 3)
            self.assert_polynomial_gates(polynomial_of(3, gates))

    def test_many_terms(self):
        for width in (4, 6, 8):
            polynomial = drawn_polynomial(width, width)
            for mask in range(1, 2 ** width):
                polynomial.add_term(mask, mask * mask + 1)
            self.assert_polynomial_gates(polynomial)


if __name__ == "__main__":
    unittest.main()
