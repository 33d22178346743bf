"""What is asked of functions. None that is handed in is changed."""

from straightpieces.forms import check_fit, shared_pieces
from straightpieces.lines import height, line_difference
from straightpieces.ratios import ZERO, is_below

MOST_IN_VALUE = 9223372036854775807


def value_at(f, place):
    found = height(f.line_at(place), place)
    check_fit(found, MOST_IN_VALUE)
    return found


# A function has one form: so functions that are the same have the same form.
def is_same(f, g):
    return f.breaks == g.breaks and f.lines == g.lines


# A line is highest at an end of its gap; where an end is not there, it must not
# rise towards it, and a level line in a gap without ends is looked at anywhere.
def is_above_zero(left, right, line):
    if left is None and is_below(line[0], ZERO):
        return True
    if right is None and is_below(ZERO, line[0]):
        return True
    ends = [end for end in (left, right) if end is not None]
    return any([is_below(ZERO, height(line, end)) for end in ends or [ZERO]])


def is_nowhere_above(f, g):
    for left, right, line_of_f, line_of_g in shared_pieces(f, g):
        if is_above_zero(left, right, line_difference(line_of_f, line_of_g)):
            return False
    return True


def numbers_of_line(line):
    return list(line[0]) + list(line[1])


def numbers_of_form(f):
    numbers = numbers_of_line(f.lines[0])
    for place, line in zip(f.breaks, f.lines[1:]):
        numbers.extend(place)
        numbers.extend(numbers_of_line(line))
    return numbers
