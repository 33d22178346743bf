"""Calls to write down, forms to look at, and a second way to every answer.

The second way keeps a function as the points where it may bend and its slopes at
both far ends, over Python's own fractions, and shares nothing with the package.
"""

import unittest
from fractions import Fraction

from straightpieces.functions import answers
from straightpieces.keeper import Keeper

MOST_SLOPE = 32767
MOST_OTHER = 2147483647


def two(number):
    if isinstance(number, tuple):
        return list(number)
    exact = Fraction(number)
    return [exact.numerator, exact.denominator]


def line(h, s, c):
    return [0, h] + two(s) + two(c)


def add(h, f, g):
    return [1, h, f, g]


def scale(h, f, s):
    return [2, h, f] + two(s)


def great(h, f, g):
    return [3, h, f, g]


def less(h, f, g):
    return [4, h, f, g]


def compose(h, f, g):
    return [5, h, f, g]


def joined(calls):
    return [number for call in calls for number in call]


def first_numbers(calls):
    """The first number that each call answers, by the package's interface."""
    given = answers(joined(calls))
    assert given[0::2] == [1] * len(calls), given
    return given[1::2]


class Object:
    """One object to call; what it keeps can be looked at between the calls."""

    def __init__(self, *calls):
        self.keeper = Keeper()
        self.calls = []
        for call in calls:
            answer = self.answer(call)
            assert answer == 0, (call, answer)

    def answer(self, call):
        self.calls.append(call)
        answer = self.keeper.answer(call[0], list(call[1:]))
        assert len(answer) == 1, answer
        return answer[0]

    def call(self, call):
        answer = self.answer(call)
        assert answer == first_numbers(self.calls)[-1]
        return answer

    def form(self, h):
        """The form as pairs: (None, slope, constant), then (break, slope, constant) each."""
        kept = self.keeper.kept[h]
        assert len(kept.lines) == len(kept.breaks) + 1
        lefts = [None] + [exact(place) for place in kept.breaks]
        return [(left, exact(s), exact(c)) for left, (s, c) in zip(lefts, kept.lines)]

    def all_forms(self):
        return {h: self.form(h) for h in sorted(self.keeper.kept)}

    def value(self, h, x):
        return value_of_form(self.form(h), Fraction(x))


def exact(pair):
    top, bottom = pair
    made = Fraction(top, bottom)
    assert (made.numerator, made.denominator) == (top, bottom), pair
    return made


def value_of_form(form, x):
    chosen = form[0]
    for piece in form[1:]:
        if piece[0] <= x:
            chosen = piece
    return chosen[1] * x + chosen[2]


def places_to_ask(*forms):
    """Left of all breaks, at each, between them, and right of all."""
    breaks = sorted({piece[0] for form in forms for piece in form[1:]}) or [Fraction(0)]
    between = [(a + b) / 2 for a, b in zip(breaks, breaks[1:])]
    ends = [breaks[0] - 7, breaks[0] - Fraction(1, 3), breaks[-1] + Fraction(1, 3), breaks[-1] + 7]
    return sorted(breaks + between + ends)


def form_faults(form):
    """What keeps this from being the one form of a function that fits."""
    faults = []
    if not 1 <= len(form) <= 32:
        faults.append("number of lines")
    for a, b in zip(form[1:], form[2:]):
        if not a[0] < b[0]:
            faults.append("breaks do not rise")
    for a, b in zip(form, form[1:]):
        if a[1:] == b[1:]:
            faults.append("the same line twice")
        if a[1] * b[0] + a[2] != b[1] * b[0] + b[2]:
            faults.append("lines do not meet")
    if not all_fit(form):
        faults.append("too large")
    return faults


def within(number, most):
    return abs(number.numerator) <= most and number.denominator <= most


def all_fit(form):
    slopes = [piece[1] for piece in form]
    others = [piece[2] for piece in form] + [piece[0] for piece in form[1:]]
    return all(within(s, MOST_SLOPE) for s in slopes) and all(within(c, MOST_OTHER) for c in others)


def tent_sum(h, spare, places):
    """Calls that leave at h the sum of max(0, x - p) over the places: a break at each."""
    calls = [line(h, 0, 0)]
    for place in places:
        calls += hinge(spare, spare + 1, place)
        calls.append(add(h, h, spare))
    return calls


def hinge(h, spare, place):
    return [line(h, 0, 0), line(spare, 1, -Fraction(place)), great(h, h, spare)]


class Bent:
    """The second way: points with rising places, and the slopes at both far ends."""

    def __init__(self, first_slope, points, last_slope):
        self.first_slope = Fraction(first_slope)
        self.points = [(Fraction(x), Fraction(y)) for x, y in points]
        self.last_slope = Fraction(last_slope)

    def at(self, x):
        x0, y0 = self.points[0]
        if x <= x0:
            return y0 + self.first_slope * (x - x0)
        for (xa, ya), (xb, yb) in zip(self.points, self.points[1:]):
            if xa <= x <= xb:
                return ya + (yb - ya) * (x - xa) / (xb - xa)
        xn, yn = self.points[-1]
        return yn + self.last_slope * (x - xn)

    def places(self):
        return [x for x, y in self.points]

    def form(self):
        xs = self.places()
        slopes = [self.first_slope]
        slopes += [(yb - ya) / (xb - xa) for (xa, ya), (xb, yb) in zip(self.points, self.points[1:])]
        slopes.append(self.last_slope)
        found = [(None, slopes[0], self.points[0][1] - slopes[0] * xs[0])]
        for (x, y), slope in zip(self.points, slopes[1:]):
            if slope != found[-1][1]:
                found.append((x, slope, y - slope * x))
        return found


def bent_from(places, at):
    """The function `at`, which bends at most at the places."""
    xs = sorted(set(places))
    first = at(xs[0]) - at(xs[0] - 1)
    last = at(xs[-1] + 1) - at(xs[-1])
    return Bent(first, [(x, at(x)) for x in xs], last)


def bent_of_form(form):
    places = [piece[0] for piece in form[1:]] or [Fraction(0)]
    return bent_from(places, lambda x: value_of_form(form, x))


def places_of_zero(at, places):
    """The places where `at` is 0 without being 0 on both sides; it bends at the places only."""
    xs = sorted(set(places))
    found = []
    for a, b in zip([xs[0] - 1] + xs, xs + [xs[-1] + 1]):
        rise = (at(b) - at(a)) / (b - a)
        if rise != 0:
            zero = a - at(a) / rise
            is_free_left = a < xs[0] and zero <= b
            is_free_right = b > xs[-1] and zero >= a
            if is_free_left or is_free_right or a <= zero <= b:
                found.append(zero)
    return found


def bent_choice(f, g, choose):
    places = f.places() + g.places()
    zeros = places_of_zero(lambda x: f.at(x) - g.at(x), places)
    return bent_from(places + zeros, lambda x: choose(f.at(x), g.at(x)))


def bent_composition(f, g):
    places = list(g.places())
    for y in f.places():
        places += places_of_zero(lambda x, y=y: g.at(x) - y, g.places())
    return bent_from(places, lambda x: f.at(g.at(x)))


def bent_sum(f, g):
    return bent_from(f.places() + g.places(), lambda x: f.at(x) + g.at(x))


def bent_multiple(f, s):
    return bent_from(f.places(), lambda x: s * f.at(x))


def form_told(call, forms):
    """The form that the call should make of the forms kept, whether it fits or not."""
    number, h, rest = call[0], call[1], call[2:]
    if number == 0:
        return [(None, Fraction(rest[0], rest[1]), Fraction(rest[2], rest[3]))]
    f = bent_of_form(forms[rest[0]])
    if number == 2:
        return bent_multiple(f, Fraction(rest[1], rest[2])).form()
    g = bent_of_form(forms[rest[1]])
    if number == 1:
        return bent_sum(f, g).form()
    if number == 5:
        return bent_composition(f, g).form()
    return bent_choice(f, g, max if number == 3 else min).form()


def answer_told(call, forms):
    """What the document asks of a call whose numbers are in their ranges."""
    number, h, rest = call[0], call[1], call[2:]
    fractions_at = {0: ((0, MOST_SLOPE), (2, MOST_OTHER)), 2: ((1, MOST_SLOPE),)}.get(number, ())
    if h > 15 or any(f not in forms for f in functions_asked(call)):
        return -1
    for k, most in fractions_at:
        if rest[k + 1] < 1 or rest[k + 1] > most or abs(rest[k]) > most:
            return -1
    made = form_told(call, forms)
    return 0 if len(made) <= 32 and all_fit(made) else -2


class Case(unittest.TestCase):
    """What the tests of the calls ask again and again."""

    def made(self, call, *before):
        """An object after the calls before and the call, which must be answered 0 and made as told."""
        kept = Object(*before)
        forms = kept.all_forms()
        told = form_told(call, forms)
        self.assertEqual(kept.call(call), 0)
        self.assertEqual(form_faults(kept.form(call[1])), [])
        self.assertEqual(kept.form(call[1]), told)
        self.assert_values(kept, call, forms)
        self.assert_kept(kept, {**forms, call[1]: told})
        return kept

    def assert_values(self, kept, call, forms):
        made = kept.form(call[1])
        of = [forms[f] for f in functions_asked(call)]
        for x in places_to_ask(made, *of):
            self.assertEqual(value_of_form(made, x), value_told(call, forms, x), (call, x))

    def assert_kept(self, kept, forms):
        self.assertEqual(kept.all_forms(), forms)

    def refused(self, number, call, *before):
        """The call is answered with the number, and all that was kept is as it was."""
        kept = Object(*before)
        forms = kept.all_forms()
        self.assertEqual(kept.call(call), number)
        self.assert_kept(kept, forms)
        self.assertEqual(kept.call(call), number)
        self.assert_kept(kept, forms)
        return kept


def functions_asked(call):
    return {0: [], 2: call[2:3]}.get(call[0], call[2:])


def value_told(call, forms, x):
    number, rest = call[0], call[2:]
    if number == 0:
        return Fraction(rest[0], rest[1]) * x + Fraction(rest[2], rest[3])
    at_x = [value_of_form(forms[f], x) for f in functions_asked(call)]
    if number == 2:
        return Fraction(rest[1], rest[2]) * at_x[0]
    if number == 5:
        return value_of_form(forms[rest[0]], at_x[1])
    return {1: sum, 3: max, 4: min}[number](at_x)
