"""Exact rationals: pairs of an upper and a lower number, in least terms, the lower one above 0."""

ZERO = (0, 1)


def common_divisor(a, b):
    """The greatest whole number that divides both, neither of them below 0."""
    while b != 0:
        rest = a % b
        a = b
        b = rest
    return a


def quotient(upper, lower):
    """upper by lower, with lower above 0."""
    divisor = common_divisor(abs(upper), lower)
    return (upper // divisor, lower // divisor)


def negative(rational):
    return (-rational[0], rational[1])


def inverse(rational):
    """1 by a rational that isn't 0."""
    if rational[0] < 0:
        return (-rational[1], -rational[0])
    return (rational[1], rational[0])
