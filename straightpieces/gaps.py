"""Gaps between two places: None stands for an end that is not there."""

from straightpieces.ratios import HALF, ONE, ZERO, is_below, minus, plus, times


def is_inside(place, left, right):
    if left is not None and not is_below(left, place):
        return False
    return right is None or is_below(place, right)


def place_inside(left, right):
    if left is None and right is None:
        return ZERO
    if left is None:
        return minus(right, ONE)
    if right is None:
        return plus(left, ONE)
    return times(plus(left, right), HALF)


def nearer_end(a, b):
    if a is None:
        return b
    if b is None or is_below(a, b):
        return a
    return b


def parted(left, right, cuts):
    return list(zip([left] + cuts, cuts + [right]))
