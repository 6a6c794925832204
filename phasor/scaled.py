"""Scaled numbers: ring numbers over powers of root, in lowest form (point 4)."""

from phasor.ring import (
    divisible_by_root,
    ring_add,
    ring_conjugate,
    ring_mul,
    ring_neg,
    ring_over_root,
    ring_sub,
    ring_times_root,
    ring_turn,
)

ZERO = ((0, 0, 0, 0), 0)
ONE = ((1, 0, 0, 0), 0)


def lowest(number, exponent):
    """Returns the lowest form of number / root^exponent, for any integer exponent."""
    if exponent < 0:
        return (_times_roots(number, -exponent), 0)
    if exponent == 0 or not divisible_by_root(number):
        return (number, exponent)
    if number == (0, 0, 0, 0):
        return ZERO
    # Two roots are 2: whole powers of 2 are taken out at once.
    halves = min(_twos(number), exponent // 2)
    number = _shifted_right(number, halves)
    exponent -= 2 * halves
    if exponent > 0 and divisible_by_root(number):
        return (ring_over_root(number), exponent - 1)
    return (number, exponent)


def _times_roots(number, count):
    """Returns a ring number times root^count, for a count that is not negative."""
    a, b, c, d = number
    halves = count // 2
    number = (a << halves, b << halves, c << halves, d << halves)
    if count % 2 == 1:
        return ring_times_root(number)
    return number


def _twos(number):
    """Returns how often a ring number that is not zero can be divided by 2."""
    a, b, c, d = number
    bits = a | b | c | d
    return (bits & -bits).bit_length() - 1


def _shifted_right(number, count):
    a, b, c, d = number
    return (a >> count, b >> count, c >> count, d >> count)


def scaled_add(x, y):
    """Returns the sum."""
    exponent = max(x[1], y[1])
    return lowest(ring_add(_raised(x, exponent), _raised(y, exponent)), exponent)


def scaled_sub(x, y):
    """Returns x - y."""
    exponent = max(x[1], y[1])
    return lowest(ring_sub(_raised(x, exponent), _raised(y, exponent)), exponent)


def _raised(x, exponent):
    """Returns the ring number that stands for x above root^exponent."""
    number, own = x
    if own == exponent:
        return number
    return _times_roots(number, exponent - own)


def scaled_mul(x, y):
    """Returns the product."""
    return lowest(ring_mul(x[0], y[0]), x[1] + y[1])


def scaled_neg(x):
    """Returns -x."""
    return (ring_neg(x[0]), x[1])


def scaled_conjugate(x):
    """Returns the complex conjugate."""
    return (ring_conjugate(x[0]), x[1])


def scaled_turn(x, steps):
    """Returns x times w^steps, for any integer steps."""
    return (ring_turn(x[0], steps), x[1])


def scaled_over_root(x):
    """Returns x divided by root."""
    return lowest(x[0], x[1] + 1)


def scaled_abs_square(x):
    """Returns x times its conjugate."""
    return scaled_mul(x, scaled_conjugate(x))


def phase_of(x):
    """Returns the k in 0..7 with x = w^k, or None if there is none."""
    for k in range(8):
        if x == scaled_turn(ONE, k):
            return k
    return None
