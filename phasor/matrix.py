"""Matrices of scaled numbers (point 5)."""

from phasor.errors import SizeMismatch
from phasor.scaled import ONE, ZERO, scaled_add, scaled_conjugate, scaled_mul, scaled_turn


def mat_identity(size):
    """Returns the identity with the number of rows."""
    return tuple([
        tuple([ONE if column == row else ZERO for column in range(size)])
        for row in range(size)
    ])


def mat_mul(a, b):
    """Returns the product."""
    if len(a[0]) != len(b):
        raise SizeMismatch("the columns of the first do not fit the rows of the second")
    columns = _columns(b)
    return tuple([tuple([_dot(row, column) for column in columns]) for row in a])


def _columns(m):
    return [tuple([row[j] for row in m]) for j in range(len(m[0]))]


def _dot(row, column):
    """Returns the sum of the products of the cells of a row and a column."""
    total = ZERO
    for x, y in zip(row, column):
        if x != ZERO and y != ZERO:
            total = scaled_add(total, scaled_mul(x, y))
    return total


def mat_add(a, b):
    """Returns the sum."""
    _check_same_size(a, b)
    return tuple([
        tuple([scaled_add(x, y) for x, y in zip(first, second)])
        for first, second in zip(a, b)
    ])


def _check_same_size(a, b):
    if len(a) != len(b) or len(a[0]) != len(b[0]):
        raise SizeMismatch("the matrices differ in their size")


def mat_scale(m, x):
    """Returns the matrix with each cell multiplied by a scaled number."""
    return tuple([tuple([scaled_mul(cell, x) for cell in row]) for row in m])


def mat_adjoint(m):
    """Returns the conjugate transpose."""
    return tuple([
        tuple([scaled_conjugate(cell) for cell in column]) for column in _columns(m)
    ])


def mat_kron(a, b):
    """Returns the Kronecker product."""
    return tuple([
        tuple([scaled_mul(x, y) for x in upper for y in lower])
        for upper in a
        for lower in b
    ])


def mat_trace(m):
    """Returns the sum of the diagonal."""
    _check_square(m)
    total = ZERO
    for k in range(len(m)):
        total = scaled_add(total, m[k][k])
    return total


def _check_square(m):
    if len(m) != len(m[0]):
        raise SizeMismatch("the matrix is not square")


def is_unitary(m):
    """Returns True if the matrix times its adjoint is the identity."""
    _check_square(m)
    return mat_mul(m, mat_adjoint(m)) == mat_identity(len(m))


def phase_between(a, b):
    """Returns the least k in 0..7 such that a is w^k times b, or None."""
    _check_same_size(a, b)
    for k in range(8):
        if _is_turned(a, b, k):
            return k
    return None


def _is_turned(a, b, steps):
    """Returns True if a is w^steps times b."""
    for first, second in zip(a, b):
        for x, y in zip(first, second):
            if x != scaled_turn(y, steps):
                return False
    return True
