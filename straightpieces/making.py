"""Functions made of functions. None that is handed in is changed."""

from straightpieces.forms import Form
from straightpieces.gaps import is_inside, nearer_end, parted, place_inside
from straightpieces.lines import crossing, height, line_after, line_multiple, line_sum, place_of_height
from straightpieces.ratios import ZERO, is_below


def single_line(slope, constant):
    made = Form()
    made.draw(None, (slope, constant))
    return made


def shared_pieces(f, g):
    found = []
    i = 0
    j = 0
    left = None
    while i < len(f.lines) and j < len(g.lines):
        f_end = f.right_end(i)
        g_end = g.right_end(j)
        right = nearer_end(f_end, g_end)
        found.append((left, right, f.lines[i], g.lines[j]))
        if f_end == right:
            i += 1
        if g_end == right:
            j += 1
        left = right
    return found


def total(f, g):
    made = Form()
    for left, right, f_line, g_line in shared_pieces(f, g):
        made.draw(left, line_sum(f_line, g_line))
    return made


def multiple(f, factor):
    made = Form()
    for left, right, line in f.pieces():
        made.draw(left, line_multiple(line, factor))
    return made


def crossings_inside(left, right, a, b):
    place = crossing(a, b)
    if place is None or not is_inside(place, left, right):
        return []
    return [place]


def chosen_line(a, b, place, wants_greater):
    a_is_below = is_below(height(a, place), height(b, place))
    return b if a_is_below == wants_greater else a


def chosen_at_each_place(f, g, wants_greater):
    made = Form()
    for left, right, f_line, g_line in shared_pieces(f, g):
        cuts = crossings_inside(left, right, f_line, g_line)
        for start, end in parted(left, right, cuts):
            place = place_inside(start, end)
            made.draw(start, chosen_line(f_line, g_line, place, wants_greater))
    return made


def greater(f, g):
    return chosen_at_each_place(f, g, True)


def lesser(f, g):
    return chosen_at_each_place(f, g, False)


def height_at_end(line, end):
    return None if end is None else height(line, end)


# The heights are sieved ahead of the division: most of them are not met in a gap.
def places_of_heights(left, right, line, heights):
    if line[0] == ZERO:
        return []
    from_height = height_at_end(line, left)
    to_height = height_at_end(line, right)
    if is_below(ZERO, line[0]):
        met = [y for y in heights if is_inside(y, from_height, to_height)]
    else:
        met = [y for y in reversed(heights) if is_inside(y, to_height, from_height)]
    return [place_of_height(line, y) for y in met]


def composition(f, g):
    made = Form()
    for left, right, line in g.pieces():
        cuts = places_of_heights(left, right, line, f.breaks)
        for start, end in parted(left, right, cuts):
            met = height(line, place_inside(start, end))
            made.draw(start, line_after(f.line_at(met), line))
    return made
