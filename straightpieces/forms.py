"""The one form of a function: its breaks, rising, and one more lines than breaks."""

from straightpieces.gaps import nearer_end
from straightpieces.ratios import is_below, is_within
from straightpieces.refusals import DoesNotFit

MOST_LINES = 32
MOST_IN_SLOPE = 32767
MOST_ELSEWHERE = 2147483647


def check_fit(fraction, most):
    if not is_within(fraction, most):
        raise DoesNotFit()


class Form:
    def __init__(self):
        self.breaks = []
        self.lines = []

    # Pieces come from the left, and a break that once is there never falls away
    # again: so what doesn't fit can be refused before the rest is drawn.
    def draw(self, left, line):
        if self.lines and self.lines[-1] == line:
            return
        if len(self.lines) == MOST_LINES:
            raise DoesNotFit()
        check_fit(line[0], MOST_IN_SLOPE)
        check_fit(line[1], MOST_ELSEWHERE)
        if self.lines:
            check_fit(left, MOST_ELSEWHERE)
            self.breaks.append(left)
        self.lines.append(line)

    def line_at(self, place):
        for k, right in enumerate(self.breaks):
            if is_below(place, right):
                return self.lines[k]
        return self.lines[-1]

    def right_end(self, k):
        return self.breaks[k] if k < len(self.breaks) else None

    def pieces(self):
        return list(zip([None] + self.breaks, self.breaks + [None], self.lines))


def shared_pieces(f, g):
    found = []
    i = 0
    j = 0
    left = None
    while i < len(f.lines) and j < len(g.lines):
        end_of_f = f.right_end(i)
        end_of_g = g.right_end(j)
        right = nearer_end(end_of_f, end_of_g)
        found.append((left, right, f.lines[i], g.lines[j]))
        if end_of_f == right:
            i += 1
        if end_of_g == right:
            j += 1
        left = right
    return found
