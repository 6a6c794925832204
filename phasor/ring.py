"""Ring numbers: a + b w + c w^2 + d w^3 with w^4 = -1 (point 3)."""

from phasor.errors import NotDivisible


def ring_add(x, y):
    """Returns the sum."""
    return (x[0] + y[0], x[1] + y[1], x[2] + y[2], x[3] + y[3])


def ring_sub(x, y):
    """Returns x - y."""
    return (x[0] - y[0], x[1] - y[1], x[2] - y[2], x[3] - y[3])


def ring_neg(x):
    """Returns -x."""
    return (-x[0], -x[1], -x[2], -x[3])


def ring_mul(x, y):
    """Returns the product."""
    a, b, c, d = x
    e, f, g, h = y
    return (
        a * e - b * h - c * g - d * f,
        a * f + b * e - c * h - d * g,
        a * g + b * f + c * e - d * h,
        a * h + b * g + c * f + d * e,
    )


def ring_conjugate(x):
    """Returns the complex conjugate."""
    return (x[0], -x[3], -x[2], -x[1])


def ring_bullet(x):
    """Returns the number with w replaced by -w."""
    return (x[0], -x[1], x[2], -x[3])


def ring_turn(x, steps):
    """Returns x times w^steps, for any integer steps."""
    a, b, c, d = x
    turns = steps % 8
    if turns >= 4:
        a, b, c, d = -a, -b, -c, -d
    if turns % 4 >= 2:
        a, b, c, d = -c, -d, a, b
    if turns % 2 == 1:
        a, b, c, d = -d, a, b, c
    return (a, b, c, d)


def ring_times_root(x):
    """Returns x times root."""
    a, b, c, d = x
    return (b - d, a + c, b + d, c - a)


def divisible_by_root(x):
    """Returns True if x is divisible by root, otherwise False."""
    return (x[0] + x[2]) % 2 == 0 and (x[1] + x[3]) % 2 == 0


def ring_over_root(x):
    """Returns x divided by root."""
    if not divisible_by_root(x):
        raise NotDivisible("the number is not divisible by root")
    # 1 / root is root / 2.
    a, b, c, d = ring_times_root(x)
    return (a // 2, b // 2, c // 2, d // 2)


def ring_abs_square(x):
    """Returns the integers u and v for which x times its conjugate is u + v root."""
    a, b, c, d = x
    return (a * a + b * b + c * c + d * d, a * b + b * c + c * d - d * a)


def ring_norm(x):
    """Returns the norm, an integer that is 0 only for zero."""
    u, v = ring_abs_square(x)
    return u * u - 2 * v * v


def ring_divide(x, y):
    """Returns the ring number q with q y = x."""
    norm = ring_norm(y)
    if norm == 0:
        raise NotDivisible("the divisor is zero")
    # y times the factor is the norm, so q is x times the factor over the norm.
    factor = ring_mul(ring_conjugate(y), _root_conjugate(ring_abs_square(y)))
    product = ring_mul(x, factor)
    for part in product:
        if part % norm != 0:
            raise NotDivisible("the quotient is not a ring number")
    a, b, c, d = product
    return (a // norm, b // norm, c // norm, d // norm)


def _root_conjugate(pair):
    """Returns the ring number u - v root for a pair of integers u and v."""
    u, v = pair
    return (u, -v, 0, v)
