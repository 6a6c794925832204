"""Normal forms of words and of matrices (points 23 to 27)."""

import itertools
import unittest
from random import Random

from phasor.bloch import word_operator
from phasor.errors import NotUnitary, SizeMismatch
from phasor.normalform import (
    CLIFFORD_WORDS, form_word, least_t_of_word, matrix_form, normal_form,
)
from phasor.scaled import ONE, ZERO, lowest
from tests.cases import GatesCase
from tests.plain import (
    matrix_columns, p_add, p_conjugate, p_mul, p_neg, p_turn, plain_columns, t_count,
    turned_columns, up_to_phase,
)
from tests.test_bloch import WORD_KINDS, drawn_word, gates_of, plain_exponent, word_columns

# Point 24, in its order; the first word is empty.
WORDS = """H S HS SH SS HSH HSS SHS SSH SSS HSHS HSSH HSSS SHSS SSHS HSHSS HSSHS SHSSH SHSSS
    SSHSS HSHSSH HSHSSS HSSHSS""".split()

AXIS_WORDS = {"X": ["H", "T", "H"], "Y": ["SDG", "H", "T", "H", "S"], "Z": ["T"]}


def drawn_axes(random, count):
    axes = ""
    while len(axes) < count:
        axes += random.choice([axis for axis in "XYZ" if axis != axes[-1:]])
    return axes


def all_axes(count):
    return [
        "".join(axes) for axes in itertools.product("XYZ", repeat=count)
        if all(a != b for a, b in zip(axes, axes[1:]))
    ]


def operators_by_t(most):
    """For each operator up to phase of a word with at most so many T gates, the least number.

    They are found by trying, without normal forms.
    """
    words = {up_to_phase(word_columns([])): []}
    left = [[]]
    while left:
        word = left.pop()
        for kind in ("H", "S"):
            key = up_to_phase(word_columns(word + [kind]))
            if key not in words:
                words[key] = word + [kind]
                left.append(word + [kind])
    cliffords = list(words.values())
    least = {key: 0 for key in words}
    for count in range(1, most + 1):
        more = {}
        for word in words.values():
            for clifford in cliffords:
                longer = word + ["T"] + clifford
                key = up_to_phase(word_columns(longer))
                if key not in least:
                    least[key] = count
                    more[key] = longer
        words = more
    return least


class FormCase(GatesCase):
    def assert_form(self, form):
        self.assertIs(type(form), tuple)
        axes, clifford, turns = form
        self.assertIs(type(axes), str)
        self.assertTrue(set(axes) <= set("XYZ"))
        self.assertTrue(all(a != b for a, b in zip(axes, axes[1:])))
        self.assertIs(type(clifford), int)
        self.assertIn(clifford, range(24))
        self.assertIs(type(turns), int)
        self.assertIn(turns, range(8))

    def form_columns(self, form):
        """The product of point 25, with the words of point 23."""
        axes, clifford, turns = form
        word = list(([""] + WORDS)[clifford])
        for axis in reversed(axes):
            word += AXIS_WORDS[axis]
        return turned_columns(word_columns(word), turns)

    def assert_word(self, word):
        given = list(word)
        form = normal_form(word)
        self.assertEqual(word, given)
        self.assert_form(form)
        self.assertEqual(self.form_columns(form), word_columns(word))
        self.assertEqual(matrix_form(word_operator(word)), form)
        self.assertEqual(least_t_of_word(word), len(form[0]))
        self.assertEqual(word, given)
        return form


class CliffordWordsTest(FormCase):
    def test_the_words(self):
        self.assertIs(type(CLIFFORD_WORDS), tuple)
        self.assertEqual(CLIFFORD_WORDS, tuple([""] + WORDS))
        self.assertEqual(len(CLIFFORD_WORDS), 24)

    def test_all_operators_without_t(self):
        keys = {up_to_phase(word_columns(list(word))) for word in CLIFFORD_WORDS}
        self.assertEqual(len(keys), 24)
        for length in range(4):
            for word in itertools.product(("H", "X", "Y", "Z", "S", "SDG"), repeat=length):
                self.assertIn(up_to_phase(word_columns(list(word))), keys)


class FormWordTest(FormCase):
    def test_the_letters(self):
        for clifford, turns, axes in itertools.product(range(24), range(8), ("", "Y", "XZ", "ZYX")):
            form = (axes, clifford, turns)
            word = form_word(form)
            self.assertIs(type(word), list)
            wanted = list(([""] + WORDS)[clifford])
            for axis in reversed(axes):
                wanted += AXIS_WORDS[axis]
            self.assertEqual(word, wanted + ["W"] * turns)
            word.append("more")
            self.assertEqual(form_word(form), wanted + ["W"] * turns)

    def test_example(self):
        self.assertEqual(form_word(("ZX", 1, 0)), ["H", "H", "T", "H", "T"])
        self.assertEqual(form_word(("", 0, 0)), [])


class NormalFormTest(FormCase):
    def test_example(self):
        self.assertEqual(normal_form(["T", "H", "T"]), ("ZX", 1, 0))
        self.assertEqual(normal_form(["T", "S", "T"]), ("", 5, 0))

    def test_short_words(self):
        for length in range(4):
            for word in itertools.product(WORD_KINDS, repeat=length):
                if length < 3 or "T" in word:
                    self.assert_word(list(word))

    def test_long_words(self):
        for seed in range(20):
            self.assert_word(drawn_word(seed + 100, 5 + 6 * seed))

    def test_empty_word_and_turns_alone(self):
        self.assertEqual(self.assert_word([]), ("", 0, 0))
        for turns in range(20):
            self.assertEqual(self.assert_word(["W"] * turns), ("", 0, turns % 8))

    def test_no_axes(self):
        for word in (["T", "T"], ["T", "TDG"], ["T", "X", "T", "X"], ["TDG", "H", "H", "T", "Y"]):
            self.assertEqual(self.assert_word(word)[0], "")

    def test_each_form(self):
        """Each index with each number of turns: a form is that of its own operator."""
        random = Random(3)
        for clifford, turns in itertools.product(range(24), range(8)):
            for count in (0, 1, 2, 5):
                form = (drawn_axes(random, count), clifford, turns)
                self.assertEqual(normal_form(form_word(form)), form)

    def test_many_axes(self):
        random = Random(4)
        for count in range(6, 41):
            form = (drawn_axes(random, count), random.randrange(24), random.randrange(8))
            word = form_word(form)
            self.assertEqual(normal_form(word), form)
            self.assertEqual(least_t_of_word(word), count)
            self.assertEqual(matrix_form(word_operator(word)), form)

    def test_forty_axes_with_each_index(self):
        random = Random(5)
        for clifford in range(24):
            form = (drawn_axes(random, 40), clifford, clifford % 8)
            self.assertEqual(normal_form(form_word(form)), form)

    def test_one_form_for_each_operator(self):
        """Forms with at most two axes have different operators."""
        seen = set()
        for count in range(3):
            for axes, clifford in itertools.product(all_axes(count), range(24)):
                key = up_to_phase(self.form_columns((axes, clifford, 0)))
                self.assertNotIn(key, seen)
                seen.add(key)
        self.assertEqual(len(seen), 24 * (1 + 3 + 6))

    def test_equal_up_to_phase(self):
        pairs = (
            (["T", "T"], ["S"]), (["T", "X", "T"], ["X"]), (["H", "T", "TDG", "H"], ["W"]),
            (["T", "S", "T"], ["X", "Y"]), (["TDG", "TDG", "H", "T"], ["SDG", "H", "T"]),
            (["X", "T", "X"], ["TDG"]), (["T", "H", "Z", "T", "H"], ["T", "H", "S", "TDG", "S", "H"]),
        )
        for first, second in pairs:
            same = up_to_phase(word_columns(first)) == up_to_phase(word_columns(second))
            one, other = self.assert_word(first), self.assert_word(second)
            self.assertEqual(one[:2] == other[:2], same)
        self.assertEqual(normal_form(["T", "T"]), normal_form(["S"]))
        self.assertEqual(normal_form(["T", "X", "T"])[:2], normal_form(["X"])[:2])
        for turns in range(9):
            for word in (["T", "H", "T"], ["H", "TDG", "S", "H"]):
                axes, clifford, phase = normal_form(word)
                self.assertEqual(
                    normal_form(word + ["W"] * turns), (axes, clifford, (phase + turns) % 8))


class LeastTest(FormCase):
    def test_by_trying(self):
        least = operators_by_t(3)
        self.assertEqual(len(least), 24 * (1 + 3 + 6 + 12))
        for seed in range(150):
            word = drawn_word(seed + 300, seed % 9)
            self.assertLessEqual(least_t_of_word(word), t_count(gates_of(word)))
            key = up_to_phase(word_columns(word))
            if key in least:
                self.assertEqual(least_t_of_word(word), least[key])
            else:
                self.assertGreater(least_t_of_word(word), 3)

    def test_bloch_exponent(self):
        for seed in range(8):
            word = drawn_word(seed + 500, 30)
            self.assertEqual(least_t_of_word(word), plain_exponent(tuple(word)))


def unit_columns(exponent, most):
    """The first columns (a, b) over root^exponent with small parts, and a's square plus b's 1."""
    numbers = list(itertools.product(range(-most, most + 1), repeat=4))
    squares = {}
    for x in numbers:
        squares.setdefault(p_mul(x, p_conjugate(x)), []).append(x)
    for square, firsts in squares.items():
        wanted = p_add((2 ** exponent, 0, 0, 0), p_neg(square))
        for second in squares.get(wanted, [])[:6]:
            yield firsts[0], second
            yield firsts[-1], second


class MatrixFormTest(FormCase):
    def assert_matrix(self, matrix):
        form = matrix_form(matrix)
        self.assert_form(form)
        self.assertEqual(self.form_columns(form), matrix_columns(matrix))
        return form

    def test_unitary_matrices(self):
        """The matrices with the columns (a, b) and w^t (-b', a'), not made from gates."""
        seen = set()
        for exponent in range(4):
            for a, b in unit_columns(exponent, 2):
                for turns in (0, 3, 6):
                    second = p_turn(p_neg(p_conjugate(b)), turns)
                    third = p_turn(p_conjugate(a), turns)
                    matrix = (
                        (lowest(a, exponent), lowest(second, exponent)),
                        (lowest(b, exponent), lowest(third, exponent)),
                    )
                    seen.add(self.assert_matrix(matrix))
        self.assertGreater(len(seen), 100)
        self.assertGreater(max(len(form[0]) for form in seen), 3)

    def test_diagonal_matrices(self):
        for first, second in itertools.product(range(8), repeat=2):
            a, b = lowest(p_turn((1, 0, 0, 0), first), 0), lowest(p_turn((1, 0, 0, 0), second), 0)
            form = self.assert_matrix(((a, ZERO), (ZERO, b)))
            self.assertEqual(len(form[0]), (first - second) % 2)
            self.assert_matrix(((ZERO, a), (b, ZERO)))

    def test_sizes(self):
        zero_row = (ZERO, ZERO)
        for matrix in (
            ((ONE,),), ((ONE, ZERO),), ((ONE,), (ZERO,)), ((ONE, ZERO, ZERO), (ZERO, ONE, ZERO)),
            (zero_row, zero_row, zero_row), ((ZERO, ZERO, ZERO),) * 2,
            ((ZERO,),), ((ZERO, ZERO, ZERO),) * 3, ((ONE, ONE, ONE, ONE),) * 4,
            tuple(tuple(ONE if i == j else ZERO for j in range(3)) for i in range(3)),
            tuple(tuple(ONE if i == j else ZERO for j in range(4)) for i in range(4)),
        ):
            self.assert_error(SizeMismatch, matrix_form, matrix)

    def test_not_unitary(self):
        root = ((0, 1, 0, -1), 0)
        half = ((1, 0, 0, 0), 2)
        for matrix in (
            ((ZERO, ZERO), (ZERO, ZERO)), ((ONE, ONE), (ZERO, ONE)), ((ONE, ZERO), (ONE, ZERO)),
            ((root, ZERO), (ZERO, ONE)), ((half, ZERO), (ZERO, half)), ((ONE, ONE), (ONE, ONE)),
            ((((1, 1, 0, -1), 0), ZERO), (ZERO, ONE)), ((ONE, ZERO), (ZERO, ZERO)),
        ):
            self.assert_error(NotUnitary, matrix_form, matrix)
            self.assert_error(NotUnitary, matrix_form, matrix[::-1])

    def test_matrices_of_circuits(self):
        for seed in range(10):
            word = drawn_word(seed + 700, 25)
            form = self.assert_matrix(word_operator(word))
            self.assertEqual(plain_columns(1, gates_of(form_word(form))), word_columns(word))


if __name__ == "__main__":
    unittest.main()
