"""Lines: each a tuple (slope, constant) of two fractions."""

from straightpieces.ratios import ONE, ZERO, minus, over, plus, times


def height(line, place):
    return plus(times(line[0], place), line[1])


def height_at_end(line, end):
    return None if end is None else height(line, end)


def line_sum(a, b):
    return (plus(a[0], b[0]), plus(a[1], b[1]))


def line_difference(a, b):
    return (minus(a[0], b[0]), minus(a[1], b[1]))


def line_multiple(line, factor):
    return (times(line[0], factor), times(line[1], factor))


def line_after(outer, inner):
    return (times(outer[0], inner[0]), height(outer, inner[1]))


def place_of_height(line, wanted):
    return over(minus(wanted, line[1]), line[0])


def line_inverse(line):
    return (over(ONE, line[0]), place_of_height(line, ZERO))


def crossing(a, b):
    difference = line_difference(a, b)
    if difference[0] == ZERO:
        return None
    return place_of_height(difference, ZERO)
