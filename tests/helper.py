"""Calls to write down, objects to call, and a second way to every answer.

All goes through straightpieces.functions.answers. The second way keeps a function as
the points where it may bend and its slopes at both far ends, over Python's own
fractions, and shares nothing with the package.
"""

import unittest
from fractions import Fraction

from straightpieces.functions import answers

MOST_SLOPE = 32767
MOST_OTHER = 2147483647
MOST_VALUE = 9223372036854775807
MOST_CALLS = 400
MOST_NUMBERS = 2400
MAKING = range(7)


def two(number):
    if isinstance(number, tuple):
        return list(number)
    exact = Fraction(number)
    return [exact.numerator, exact.denominator]


def line(h, s, c):
    return [0, h] + two(s) + two(c)


def add(h, f, g):
    return [1, h, f, g]


def scale(h, f, s):
    return [2, h, f] + two(s)


def great(h, f, g):
    return [3, h, f, g]


def less(h, f, g):
    return [4, h, f, g]


def compose(h, f, g):
    return [5, h, f, g]


def inverse(h, f):
    return [6, h, f]


def value(f, x):
    return [7, f] + two(x)


def same(f, g):
    return [8, f, g]


def below(f, g):
    return [9, f, g]


def form(f):
    return [10, f]


def joined(calls):
    return [number for call in calls for number in call]


def answered(calls):
    """What each call answers, taken apart by the counts; nothing may be left over."""
    numbers = joined(calls)
    assert 1 <= len(calls) <= MOST_CALLS and len(numbers) <= MOST_NUMBERS, (len(calls), len(numbers))
    given = answers(numbers)
    found = []
    while given:
        end = 1 + given[0]
        assert 1 < end <= len(given), given
        found.append(given[1:end])
        given = given[end:]
    assert len(found) == len(calls), (len(found), len(calls))
    return found


class Object:
    """One object to call; what it keeps is asked by its own calls, which change nothing."""

    def __init__(self, *calls):
        self.calls = list(calls)
        if calls:
            for call, answer in zip(calls, answered(calls)):
                assert answer == [0], (call, answer)

    def call(self, call):
        self.calls.append(call)
        return answered(self.calls)[-1]

    def ask(self, calls):
        """What each of the calls answers behind those that were called, as many at a time as a list may have."""
        found = []
        while len(found) < len(calls):
            room = min(MOST_CALLS - len(self.calls), (MOST_NUMBERS - len(joined(self.calls))) // 6)
            assert room > 0, len(self.calls)
            part = calls[len(found):len(found) + room]
            found += answered(self.calls + part)[len(self.calls):]
        return found

    def form(self, h):
        return pieces_of_numbers(self.ask([form(h)])[0])

    def all_forms(self):
        told = self.ask([form(h) for h in range(16)])
        return {h: pieces_of_numbers(answer) for h, answer in enumerate(told) if answer != [-1]}

    def value(self, h, x):
        answer = self.ask([value(h, x)])[0]
        assert answer[0] == 0 and len(answer) == 3, answer
        return exact(answer[1:])


def exact(pair):
    top, bottom = pair
    made = Fraction(top, bottom)
    assert (made.numerator, made.denominator) == (top, bottom), pair
    return made


def pieces_of_numbers(answer):
    """What form answers, as pieces: (None, slope, constant), then (break, slope, constant) each."""
    assert answer[0] == 0 and len(answer) % 6 == 5, answer
    fractions = [exact(answer[k:k + 2]) for k in range(1, len(answer), 2)]
    behind = fractions[2:]
    return [(None, *fractions[:2])] + [tuple(behind[k:k + 3]) for k in range(0, len(behind), 3)]


def numbers_of_pieces(pieces):
    return [0] + joined(two(number) for piece in pieces for number in piece if number is not None)


def value_of_pieces(pieces, x):
    chosen = pieces[0]
    for piece in pieces[1:]:
        if piece[0] <= x:
            chosen = piece
    return chosen[1] * x + chosen[2]


def places_to_ask(*forms):
    """Left of all breaks, at each, between them, and right of all."""
    breaks = sorted({piece[0] for pieces in forms for piece in pieces[1:]}) or [Fraction(0)]
    between = [(a + b) / 2 for a, b in zip(breaks, breaks[1:])]
    ends = [breaks[0] - 7, breaks[0] - Fraction(1, 3), breaks[-1] + Fraction(1, 3), breaks[-1] + 7]
    return sorted(breaks + between + ends)


def form_faults(pieces):
    """What keeps this from being the one form of a function that fits."""
    faults = []
    if not 1 <= len(pieces) <= 32:
        faults.append("number of lines")
    for a, b in zip(pieces[1:], pieces[2:]):
        if not a[0] < b[0]:
            faults.append("breaks do not rise")
    for a, b in zip(pieces, pieces[1:]):
        if a[1:] == b[1:]:
            faults.append("the same line twice")
        if a[1] * b[0] + a[2] != b[1] * b[0] + b[2]:
            faults.append("lines do not meet")
    if not all_fit(pieces):
        faults.append("too large")
    return faults


def within(number, most):
    return abs(number.numerator) <= most and number.denominator <= most


def all_fit(pieces):
    slopes = [piece[1] for piece in pieces]
    others = [piece[2] for piece in pieces] + [piece[0] for piece in pieces[1:]]
    return all(within(s, MOST_SLOPE) for s in slopes) and all(within(c, MOST_OTHER) for c in others)


def hinge(h, spare, place):
    return [line(h, 0, 0), line(spare, 1, -Fraction(place)), great(h, h, spare)]


def tent_sum(h, spare, places):
    """Calls that leave at h the sum of max(0, x - p) over the places: a break at each."""
    calls = [line(h, 0, 0)]
    for place in places:
        calls += hinge(spare, spare + 1, place)
        calls.append(add(h, h, spare))
    return calls


def rising(h, spare, places):
    """Calls that leave at h a function with slopes 1, 2, .. and a break at each of the places."""
    return tent_sum(h, spare, places) + [line(spare, 1, 0), add(h, h, spare)]


def falling(h, spare, places):
    return rising(h, spare, places) + [scale(h, h, -1)]


def size_of_x(h, spare):
    return [line(h, 1, 0), line(spare, -1, 0), great(h, h, spare)]


class Bent:
    """The second way: points with rising places, and the slopes at both far ends."""

    def __init__(self, first_slope, points, last_slope):
        self.first_slope = Fraction(first_slope)
        self.points = [(Fraction(x), Fraction(y)) for x, y in points]
        self.last_slope = Fraction(last_slope)

    def at(self, x):
        x0, y0 = self.points[0]
        if x <= x0:
            return y0 + self.first_slope * (x - x0)
        for (xa, ya), (xb, yb) in zip(self.points, self.points[1:]):
            if xa <= x <= xb:
                return ya + (yb - ya) * (x - xa) / (xb - xa)
        xn, yn = self.points[-1]
        return yn + self.last_slope * (x - xn)

    def places(self):
        return [x for x, y in self.points]

    def slopes(self):
        between = [(yb - ya) / (xb - xa) for (xa, ya), (xb, yb) in zip(self.points, self.points[1:])]
        return [self.first_slope] + between + [self.last_slope]

    def pieces(self):
        slopes = self.slopes()
        x0, y0 = self.points[0]
        found = [(None, slopes[0], y0 - slopes[0] * x0)]
        for (x, y), slope in zip(self.points, slopes[1:]):
            if slope != found[-1][1]:
                found.append((x, slope, y - slope * x))
        return found


def bent_from(places, at):
    """The function `at`, which bends at most at the places."""
    xs = sorted(set(places))
    first = at(xs[0]) - at(xs[0] - 1)
    last = at(xs[-1] + 1) - at(xs[-1])
    return Bent(first, [(x, at(x)) for x in xs], last)


def bent_of_pieces(pieces):
    places = [piece[0] for piece in pieces[1:]] or [Fraction(0)]
    return bent_from(places, lambda x: value_of_pieces(pieces, x))


def places_of_zero(at, places):
    """The places where `at` is 0 without being 0 on both sides; it bends at the places only."""
    xs = sorted(set(places))
    found = []
    for a, b in zip([xs[0] - 1] + xs, xs + [xs[-1] + 1]):
        rise = (at(b) - at(a)) / (b - a)
        if rise != 0:
            zero = a - at(a) / rise
            is_free_left = a < xs[0] and zero <= b
            is_free_right = b > xs[-1] and zero >= a
            if is_free_left or is_free_right or a <= zero <= b:
                found.append(zero)
    return found


def bent_choice(f, g, choose):
    places = f.places() + g.places()
    zeros = places_of_zero(lambda x: f.at(x) - g.at(x), places)
    return bent_from(places + zeros, lambda x: choose(f.at(x), g.at(x)))


def bent_composition(f, g):
    places = list(g.places())
    for y in f.places():
        places += places_of_zero(lambda x, y=y: g.at(x) - y, g.places())
    return bent_from(places, lambda x: f.at(g.at(x)))


def bent_sum(f, g):
    return bent_from(f.places() + g.places(), lambda x: f.at(x) + g.at(x))


def bent_multiple(f, s):
    return bent_from(f.places(), lambda x: s * f.at(x))


def bent_inverse(f):
    """None where the function is not one to one."""
    if min(f.slopes()) <= 0 <= max(f.slopes()):
        return None
    turned = sorted((y, x) for x, y in f.points)
    ends = (1 / f.first_slope, 1 / f.last_slope)
    return Bent(ends[0], turned, ends[1]) if f.first_slope > 0 else Bent(ends[1], turned, ends[0])


def bent_same(f, g):
    xs = sorted(f.places() + g.places())
    return all(f.at(x) == g.at(x) for x in [xs[0] - 1] + xs + [xs[-1] + 1])


def bent_below(f, g):
    if f.first_slope < g.first_slope or f.last_slope > g.last_slope:
        return False
    return all(f.at(x) <= g.at(x) for x in f.places() + g.places())


def form_told(call, forms):
    """The form that the call should make of the forms kept, whether it fits or not; None where -5 is told."""
    number, rest = call[0], call[2:]
    if number == 0:
        return [(None, Fraction(rest[0], rest[1]), Fraction(rest[2], rest[3]))]
    f = bent_of_pieces(forms[rest[0]])
    if number == 2:
        return bent_multiple(f, Fraction(rest[1], rest[2])).pieces()
    if number == 6:
        turned = bent_inverse(f)
        return None if turned is None else turned.pieces()
    g = bent_of_pieces(forms[rest[1]])
    if number == 1:
        return bent_sum(f, g).pieces()
    if number == 5:
        return bent_composition(f, g).pieces()
    return bent_choice(f, g, max if number == 3 else min).pieces()


def functions_asked(call):
    """The places of the functions that the call is about, h not among them."""
    if call[0] in MAKING:
        return {0: [], 2: call[2:3]}.get(call[0], call[2:])
    return {7: call[1:2]}.get(call[0], call[1:])


FRACTIONS_AT = {0: ((2, MOST_SLOPE), (4, MOST_OTHER)), 2: ((3, MOST_SLOPE),), 7: ((2, MOST_OTHER),)}


def is_wrong(call, forms):
    if call[0] in MAKING and call[1] > 15 or any(f not in forms for f in functions_asked(call)):
        return True
    for k, most in FRACTIONS_AT.get(call[0], ()):
        if call[k + 1] < 1 or call[k + 1] > most or abs(call[k]) > most:
            return True
    return False


def answer_told(call, forms):
    """All the numbers that the document asks of the call, where the forms are kept."""
    if is_wrong(call, forms):
        return [-1]
    if call[0] in MAKING:
        made = form_told(call, forms)
        if made is None:
            return [-5]
        return [0] if len(made) <= 32 and all_fit(made) else [-2]
    if call[0] == 10:
        return numbers_of_pieces(forms[call[1]])
    bent = [bent_of_pieces(forms[f]) for f in functions_asked(call)]
    if call[0] == 7:
        found = bent[0].at(Fraction(call[2], call[3]))
        return [0] + two(found) if within(found, MOST_VALUE) else [-2]
    return [0, int(bent_same(*bent) if call[0] == 8 else bent_below(*bent))]


def value_told(call, forms, x):
    """The value at x of what the call makes."""
    number, rest = call[0], call[2:]
    if number == 0:
        return Fraction(rest[0], rest[1]) * x + Fraction(rest[2], rest[3])
    f = forms[rest[0]]
    if number == 2:
        return Fraction(rest[1], rest[2]) * value_of_pieces(f, x)
    if number == 6:
        places = [piece[0] for piece in f[1:]] or [Fraction(0)]
        found, = set(places_of_zero(lambda place: value_of_pieces(f, place) - x, places))
        return found
    g_at_x = value_of_pieces(forms[rest[1]], x)
    if number == 5:
        return value_of_pieces(f, g_at_x)
    return {1: sum, 3: max, 4: min}[number]((value_of_pieces(f, x), g_at_x))


class Case(unittest.TestCase):
    """What the tests of the calls ask again and again."""

    def made(self, call, *before):
        """An object after the calls before and the call, which must be answered 0 and made as told."""
        kept = Object(*before)
        forms = kept.all_forms()
        told = form_told(call, forms)
        self.assertEqual(kept.call(call), [0])
        self.assert_kept(kept, {**forms, call[1]: told})
        self.assertEqual(form_faults(told), [])
        self.assert_values(kept, call, forms)
        return kept

    def assert_values(self, kept, call, forms):
        of = [forms[f] for f in functions_asked(call)]
        places = [x for x in places_to_ask(kept.form(call[1]), *of) if within(x, MOST_OTHER)]
        for x, answer in zip(places, kept.ask([value(call[1], x) for x in places])):
            told = value_told(call, forms, x)
            self.assertEqual(answer, [0] + two(told) if within(told, MOST_VALUE) else [-2], (call, x))

    def assert_kept(self, kept, forms):
        self.assertEqual(kept.all_forms(), forms)

    def refused(self, number, call, *before):
        """The call is answered with the number alone, and all that was kept is as it was."""
        kept = Object(*before)
        forms = kept.all_forms()
        self.assertEqual(answer_told(call, forms), [number])
        for again in range(2):
            self.assertEqual(kept.call(call), [number])
            self.assert_kept(kept, forms)
        return kept

    def told(self, answer, call, *before):
        """The call, which makes nothing, answers these numbers behind the 0, and all that was kept is as it was."""
        kept = Object(*before)
        forms = kept.all_forms()
        self.assertEqual(answer_told(call, forms), [0] + answer)
        for again in range(2):
            self.assertEqual(kept.call(call), [0] + answer)
            self.assert_kept(kept, forms)
        return kept
