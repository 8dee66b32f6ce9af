"""Exact rationals: pairs of an upper and a lower number, in least terms, the lower one above 0."""

ZERO = (0, 1)

# Texts have numbers below this, so what's kept has no longer ones either.
TOO_LONG_FROM = 1000000000000000000


def common_divisor(a, b):
    """The greatest whole number that divides both, neither of them below 0."""
    while b != 0:
        rest = a % b
        a = b
        b = rest
    return a


def quotient(upper, lower):
    """upper by lower, with lower above 0."""
    divisor = common_divisor(abs(upper), lower)
    return (upper // divisor, lower // divisor)


def negative(rational):
    return (-rational[0], rational[1])


def inverse(rational):
    """1 by a rational that isn't 0."""
    if rational[0] < 0:
        return (-rational[1], -rational[0])
    return (rational[1], rational[0])


def plus(one, other):
    return quotient(one[0] * other[1] + other[0] * one[1], one[1] * other[1])


def times(one, other):
    return quotient(one[0] * other[0], one[1] * other[1])


def is_too_long(rational):
    return abs(rational[0]) >= TOO_LONG_FROM or rational[1] >= TOO_LONG_FROM
