"""Macros (point 10)."""

import unittest

from phasor.errors import InvalidGate
from phasor.macros import MACROS, macro_gates
from tests.plain import P_I, P_ONE, P_ZERO, p_neg, plain_columns

LISTS = {
    "CS": "T a, T b, CX a b, TDG b, CX a b",
    "CSDG": "TDG a, TDG b, CX a b, T b, CX a b",
    "CCZ": "T a, T b, T c, CX a b, TDG b, CX a b, CX b c, TDG c, CX a c, T c, CX b c, "
           "TDG c, CX a c",
}
LISTS["CCX"] = "H c, " + LISTS["CCZ"] + ", H c"
LISTS["CSWAP"] = "CX c b, " + LISTS["CCX"] + ", CX c b"
SIZES = {"CS": 2, "CSDG": 2, "CCZ": 3, "CCX": 3, "CSWAP": 3}


def listed(kind, qubits):
    """The gates of the table of the document."""
    places = dict(zip("abc", qubits))
    gates = []
    for words in LISTS[kind].split(", "):
        word, *letters = words.split()
        gates.append((word, tuple(places[letter] for letter in letters)))
    return gates


def bits(index, qubits):
    return [(index >> qubit) & 1 for qubit in qubits]


def effect(kind, qubits, index):
    """The index and the factor to which the words of the document map an index."""
    ones = bits(index, qubits)
    if kind in ("CS", "CSDG"):
        factor = P_I if kind == "CS" else p_neg(P_I)
        return index, factor if all(ones) else P_ONE
    if kind == "CCZ":
        return index, p_neg(P_ONE) if all(ones) else P_ONE
    a, b, c = qubits
    if kind == "CCX":
        return index ^ (1 << c) if ones[0] and ones[1] else index, P_ONE
    if ones[0] and ones[1] != ones[2]:
        return index ^ (1 << b) ^ (1 << c), P_ONE
    return index, P_ONE


class MacrosTest(unittest.TestCase):
    def test_names(self):
        self.assertEqual(MACROS, ("CS", "CSDG", "CCZ", "CCX", "CSWAP"))

    def test_lists(self):
        for kind in MACROS:
            for qubits in ((0, 1, 2), (2, 0, 1), (5, 63, 4), (10 ** 20, 0, 7)):
                chosen = qubits[:SIZES[kind]]
                got = macro_gates(kind, chosen)
                self.assertIs(type(got), list)
                self.assertEqual(got, listed(kind, chosen))

    def test_effects(self):
        for kind in MACROS:
            for qubits in ((0, 1, 2), (2, 1, 0), (1, 3, 0)):
                chosen = qubits[:SIZES[kind]]
                columns = plain_columns(4, macro_gates(kind, chosen))
                for index, column in enumerate(columns):
                    wanted = [P_ZERO] * 16
                    end, factor = effect(kind, chosen, index)
                    wanted[end] = factor
                    self.assertEqual(column, wanted)

    def test_new_lists(self):
        for kind in MACROS:
            qubits = (0, 1, 2)[:SIZES[kind]]
            macro_gates(kind, qubits).append("more")
            self.assertNotIn("more", macro_gates(kind, qubits))

    def test_other_kinds(self):
        for kind in ("CX", "H", "W", "", "cs", "CCCX", "CCCZ", "SWAP", "CS "):
            for qubits in ((), (0,), (0, 1), (0, 1, 2)):
                with self.assertRaises(InvalidGate):
                    macro_gates(kind, qubits)

    def test_wrong_qubits(self):
        for kind in MACROS:
            size = SIZES[kind]
            for count in (0, 1, 2, 3, 4):
                if count != size:
                    with self.assertRaises(InvalidGate):
                        macro_gates(kind, tuple(range(count)))
            for qubits in ((0, 0, 1), (1, 1, 1), (-1, 0, 1), (0, -1, 1), (4, 4, 4)):
                with self.assertRaises(InvalidGate):
                    macro_gates(kind, qubits[:size])
        for kind in ("CCZ", "CCX", "CSWAP"):
            for qubits in ((0, 1, 0), (0, 1, 1), (0, 1, -1), (-3, -2, -1)):
                with self.assertRaises(InvalidGate):
                    macro_gates(kind, qubits)


if __name__ == "__main__":
    unittest.main()
