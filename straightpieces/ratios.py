"""Fractions: each a tuple (top, bottom) in lowest terms, the bottom at least 1."""

ZERO = (0, 1)
ONE = (1, 1)
HALF = (1, 2)


def common_divisor(a, b):
    while b != 0:
        rest = a % b
        a = b
        b = rest
    return a


def ratio(top, bottom):
    divisor = common_divisor(abs(top), abs(bottom))
    if bottom < 0:
        divisor = -divisor
    return (top // divisor, bottom // divisor)


def plus(a, b):
    return ratio(a[0] * b[1] + b[0] * a[1], a[1] * b[1])


def minus(a, b):
    return ratio(a[0] * b[1] - b[0] * a[1], a[1] * b[1])


def times(a, b):
    return ratio(a[0] * b[0], a[1] * b[1])


def over(a, b):
    return ratio(a[0] * b[1], a[1] * b[0])


def is_below(a, b):
    return a[0] * b[1] < b[0] * a[1]


def is_within(a, most):
    return abs(a[0]) <= most and a[1] <= most
