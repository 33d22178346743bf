"""Functions made of functions. None that is handed in is changed."""

from straightpieces.forms import Form, shared_pieces
from straightpieces.gaps import is_inside, parted, place_inside
from straightpieces.lines import (crossing, height, height_at_end, line_after, line_inverse, line_multiple, line_sum,
                                  place_of_height)
from straightpieces.ratios import ZERO, is_below
from straightpieces.refusals import NotOneToOne


def single_line(slope, constant):
    made = Form()
    made.draw(None, (slope, constant))
    return made


def total(f, g):
    made = Form()
    for left, right, line_of_f, line_of_g in shared_pieces(f, g):
        made.draw(left, line_sum(line_of_f, line_of_g))
    return made


def multiple(f, factor):
    made = Form()
    for left, right, line in f.pieces():
        made.draw(left, line_multiple(line, factor))
    return made


def crossings_inside(left, right, a, b):
    place = crossing(a, b)
    if place is None or not is_inside(place, left, right):
        return []
    return [place]


def chosen_line(a, b, place, wants_greater):
    a_is_below = is_below(height(a, place), height(b, place))
    return b if a_is_below == wants_greater else a


def chosen_at_each_place(f, g, wants_greater):
    made = Form()
    for left, right, line_of_f, line_of_g in shared_pieces(f, g):
        cuts = crossings_inside(left, right, line_of_f, line_of_g)
        for start, end in parted(left, right, cuts):
            place = place_inside(start, end)
            made.draw(start, chosen_line(line_of_f, line_of_g, place, wants_greater))
    return made


def greater(f, g):
    return chosen_at_each_place(f, g, True)


def lesser(f, g):
    return chosen_at_each_place(f, g, False)


# The heights are sieved ahead of the division: most of them are not met in a gap.
def places_of_heights(left, right, line, heights):
    if line[0] == ZERO:
        return []
    from_height = height_at_end(line, left)
    to_height = height_at_end(line, right)
    if is_below(ZERO, line[0]):
        met = [y for y in heights if is_inside(y, from_height, to_height)]
    else:
        met = [y for y in reversed(heights) if is_inside(y, to_height, from_height)]
    return [place_of_height(line, y) for y in met]


def composition(f, g):
    made = Form()
    for left, right, line in g.pieces():
        cuts = places_of_heights(left, right, line, f.breaks)
        for start, end in parted(left, right, cuts):
            met = height(line, place_inside(start, end))
            made.draw(start, line_after(f.line_at(met), line))
    return made


def is_rising(f):
    return all([is_below(ZERO, line[0]) for line in f.lines])


def is_falling(f):
    return all([is_below(line[0], ZERO) for line in f.lines])


# The pieces come by rising heights: a falling function's from its right.
def inverse(f):
    made = Form()
    if is_rising(f):
        for left, right, line in f.pieces():
            made.draw(height_at_end(line, left), line_inverse(line))
    elif is_falling(f):
        for left, right, line in reversed(f.pieces()):
            made.draw(height_at_end(line, right), line_inverse(line))
    else:
        raise NotOneToOne()
    return made
