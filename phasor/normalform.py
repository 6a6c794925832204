"""Normal forms of words and of matrices with two rows (points 23 to 27)."""

from phasor.bloch import PAULI_KINDS, bloch_exponent, bloch_of, greatest_exponent, word_operator
from phasor.errors import NotUnitary, SizeMismatch
from phasor.matrix import is_unitary, mat_mul, phase_between
from phasor.scaled import scaled_add, scaled_over_root, scaled_sub

CLIFFORD_WORDS = (
    "", "H", "S", "HS", "SH", "SS", "HSH", "HSS", "SHS", "SSH", "SSS", "HSHS",
    "HSSH", "HSSS", "SHSS", "SSHS", "HSHSS", "HSSHS", "SHSSH", "SHSSS", "SSHSS",
    "HSHSSH", "HSHSSS", "HSSHSS",
)

# The words of the axis rotations, and of their inverses.
AXIS_WORDS = {"X": ("H", "T", "H"), "Y": ("SDG", "H", "T", "H", "S"), "Z": ("T",)}
UNDO_WORDS = {"X": ("H", "TDG", "H"), "Y": ("SDG", "H", "TDG", "H", "S"), "Z": ("TDG",)}


def normal_form(word):
    """Returns the normal form of a word."""
    return matrix_form(word_operator(word))


def matrix_form(matrix):
    """Returns the normal form whose operator is the matrix."""
    if len(matrix) != 2 or len(matrix[0]) != 2:
        raise SizeMismatch("the matrix does not have two rows and two columns")
    if not is_unitary(matrix):
        raise NotUnitary("the matrix is not unitary")
    axes = _axes_of(bloch_of(matrix))
    undo = {axis: word_operator(UNDO_WORDS[axis]) for axis in PAULI_KINDS}
    rest = matrix
    for axis in axes:
        rest = mat_mul(undo[axis], rest)
    index, turns = _clifford_of(rest)
    return (axes, index, turns)


def _axes_of(rows):
    """Returns the letters of the axes, from the Bloch matrix."""
    letters = []
    exponent = greatest_exponent(rows)
    while exponent > 0:
        axis = _first_axis(rows, exponent)
        letters.append(PAULI_KINDS[axis])
        rows = _without_axis(rows, axis)
        exponent -= 1
    return "".join(letters)


def _first_axis(rows, exponent):
    """Returns the index of the first axis of a Bloch matrix with this exponent.

    The rotation that is executed last spreads the other two rows over each
    other, so that its own row is the only one without the greatest exponent.
    """
    return [k for k in range(3) if greatest_exponent([rows[k]]) < exponent][0]


def _without_axis(rows, axis):
    """Returns the rows of a Bloch matrix before the rotation of the axis."""
    first = (axis + 1) % 3
    second = (axis + 2) % 3
    result = list(rows)
    pairs = list(zip(rows[first], rows[second]))
    result[first] = tuple([scaled_over_root(scaled_add(x, y)) for x, y in pairs])
    result[second] = tuple([scaled_over_root(scaled_sub(y, x)) for x, y in pairs])
    return result


def _clifford_of(matrix):
    """Returns the index and the turns of the Clifford word with the operator."""
    phases = [phase_between(matrix, word_operator(word)) for word in CLIFFORD_WORDS]
    return [(index, turns) for index, turns in enumerate(phases) if turns is not None][0]


def form_word(form):
    """Returns a word with the operator of a normal form."""
    axes, clifford, turns = form
    word = list(CLIFFORD_WORDS[clifford])
    for axis in reversed(axes):
        word.extend(AXIS_WORDS[axis])
    return word + ["W"] * turns


def least_t_of_word(word):
    """Returns the least number of T gates of all words equal to it up to phase."""
    return bloch_exponent(word)
