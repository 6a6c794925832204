"""The two plain ways of the tests agree."""

import unittest

from tests.plain import (
    all_gates, drawn_gates, plain_columns, plain_phase, sparse_columns, sparse_phase,
    sparse_turned,
)


def dense(columns):
    size = len(columns)
    return [[column.get(k, (0, 0, 0, 0)) for k in range(size)] for column in columns]


class PlainTest(unittest.TestCase):
    def test_each_gate(self):
        for width in (1, 2, 3):
            for gate in all_gates(width):
                for before in ([], [("H", (0,)), ("T", (0,))]):
                    gates = before + [gate]
                    self.assertEqual(
                        dense(sparse_columns(width, gates)), plain_columns(width, gates))

    def test_drawn_gates(self):
        for width in (1, 2, 3):
            gates = drawn_gates(width, width, 40)
            self.assertEqual(dense(sparse_columns(width, gates)), plain_columns(width, gates))

    def test_phases(self):
        gates = drawn_gates(8, 2, 20)
        columns = sparse_columns(2, gates)
        for k in range(8):
            turned = sparse_turned(columns, k)
            self.assertEqual(sparse_phase(turned, columns), k)
            self.assertEqual(plain_phase(dense(turned), dense(columns)), k)
        self.assertIsNone(sparse_phase(columns, sparse_columns(2, gates + [("X", (1,))])))


if __name__ == "__main__":
    unittest.main()
