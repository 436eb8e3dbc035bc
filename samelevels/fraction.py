"""Fractions: a tuple of two whole numbers, the second 1 or more, with nothing in common."""

ZERO = (0, 1)
ONE = (1, 1)


def common(a, b):
    while b != 0:
        rest = a % b
        a = b
        b = rest
    return a


def lowest(top, bottom):
    if bottom < 0:
        top = -top
        bottom = -bottom
    shared = common(bottom, abs(top))
    return (top // shared, bottom // shared)


def plus(p, q):
    return lowest(p[0] * q[1] + q[0] * p[1], p[1] * q[1])


def minus(p, q):
    return lowest(p[0] * q[1] - q[0] * p[1], p[1] * q[1])


def times(p, q):
    return lowest(p[0] * q[0], p[1] * q[1])


def over(p, q):
    return lowest(p[0] * q[1], p[1] * q[0])


def power(p, e):
    result = ONE
    for k in range(e):
        result = times(result, p)
    return result
