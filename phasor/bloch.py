"""Words on one qubit, their operators and their Bloch matrices (points 21 and 22)."""

from phasor.circuit import Circuit
from phasor.matrix import mat_adjoint, mat_mul, mat_trace
from phasor.scaled import lowest
from phasor.simulate import operator

# The rows and the columns of a Bloch matrix, in order.
PAULI_KINDS = ("X", "Y", "Z")


def word_gates(word):
    """Returns the gates of a word, on qubit 0."""
    return [(kind, ()) if kind == "W" else (kind, (0,)) for kind in word]


def word_operator(word):
    """Returns the operator of a word."""
    return operator(Circuit(1, word_gates(word)))


def bloch(word):
    """Returns the Bloch matrix of a word."""
    return bloch_of(word_operator(word))


def bloch_of(matrix):
    """Returns the Bloch matrix of a unitary matrix with two rows."""
    adjoint = mat_adjoint(matrix)
    paulis = [word_operator([kind]) for kind in PAULI_KINDS]
    images = [mat_mul(mat_mul(matrix, pauli), adjoint) for pauli in paulis]
    return tuple([
        tuple([_half(mat_trace(mat_mul(pauli, image))) for image in images])
        for pauli in paulis
    ])


def _half(x):
    """Returns one half of a scaled number: 2 is two roots."""
    return lowest(x[0], x[1] + 2)


def bloch_exponent(word):
    """Returns the Bloch exponent of a word."""
    return greatest_exponent(bloch(word))


def greatest_exponent(rows):
    """Returns the greatest exponent of a cell in rows of scaled numbers."""
    return max([cell[1] for row in rows for cell in row])
