"""Many lists of calls of all eleven kinds, drawn up from written seeds, against the helper's second way."""

import random

from tests.helper import (Case, MAKING, MOST_CALLS, MOST_NUMBERS, answer_told, answered, form, form_faults, form_told,
                          joined)

# How large slopes and constants are drawn, numerator and denominator each.
SIZES = {
    "whole": ((2, 1), (20, 1)),
    "small": ((3, 3), (6, 3)),
    "middling": ((40, 12), (3000, 50)),
    "large": ((32767, 32767), (2147483647, 2147483647)),
}
# Which slopes lines get: without the slopes of both signs, inverses can be made.
LEANINGS = ("rising", "falling", "both")


def fraction_drawn(chance, most):
    if chance.random() < 0.05:
        return [chance.choice((-most[0], most[0])), chance.choice((1, most[1]))]
    if chance.random() < 0.03:
        return [chance.randint(-2 ** 63, 2 ** 63 - 1), chance.randint(-2, 2)]
    return [chance.randint(-most[0], most[0]), chance.randint(1, most[1])]


def place_drawn(chance):
    return chance.choice((15, 16, 2 ** 32 - 1)) if chance.random() < 0.02 else chance.randrange(6)


class Drawer:
    """Draws up calls; it never looks at what they answer."""

    def __init__(self, seed, size, leaning):
        self.chance = random.Random(f"{seed} {size} {leaning}")
        self.slope, self.other = SIZES[size]
        self.leaning = leaning

    def slope_drawn(self):
        top, bottom = fraction_drawn(self.chance, (2, 2) if self.chance.random() < 0.3 else self.slope)
        if self.leaning == "both" or self.chance.random() < 0.02:
            return [top, bottom]
        return [(abs(top) or 1) * (1 if self.leaning == "rising" else -1), bottom]

    def line_drawn(self, h):
        return [0, h] + self.slope_drawn() + fraction_drawn(self.chance, self.other)

    def call_drawn(self):
        number = self.chance.choice((0, 0, 1, 1, 2, 3, 3, 3, 4, 4, 4, 5, 5, 6, 6, 7, 7, 8, 9, 9, 10))
        first = place_drawn(self.chance)
        if number == 0:
            return self.line_drawn(first)
        if number == 2:
            return [2, first, place_drawn(self.chance)] + self.slope_drawn()
        if number == 7:
            return [7, first] + fraction_drawn(self.chance, self.other)
        others = {6: 1, 8: 1, 9: 1, 10: 0}.get(number, 2)
        return [number, first] + [place_drawn(self.chance) for k in range(others)]

    def calls_drawn(self, many):
        """Behind each call that makes something, the form there; at the end every form."""
        calls = [self.line_drawn(h) for h in range(6)]
        for k in range(many):
            call = self.call_drawn()
            calls += [call, form(call[1])] if call[0] in MAKING else [call]
        return calls + [form(h) for h in range(17)]


def answers_told(calls):
    forms = {}
    told = []
    for call in calls:
        told.append(answer_told(call, forms))
        if call[0] in MAKING and told[-1] == [0]:
            forms[call[1]] = form_told(call, forms)
    return told, forms


class TestSecondWay(Case):
    def check(self, calls):
        told, forms = answers_told(calls)
        for call, answer, wanted in zip(calls, answered(calls), told):
            self.assertEqual(answer, wanted, call)
        for pieces in forms.values():
            self.assertEqual(form_faults(pieces), [])
        return {(call[0], *answer[:1 if call[0] in (*MAKING, 7, 10) else 2]) for call, answer in zip(calls, told)}

    def check_many(self, size, seeds, many):
        """Every call is answered, and refused, in every way that it can be."""
        seen = set()
        for seed in seeds:
            for leaning in LEANINGS:
                seen |= self.check(Drawer(seed, size, leaning).calls_drawn(many))
        ways = {(number, 0) for number in (*MAKING, 7, 10)} | {(8, 0, 0), (8, 0, 1), (9, 0, 0), (9, 0, 1)}
        ways |= {(number, -1) for number in range(11)} | {(6, -5)}
        self.assertEqual(ways - seen, set())
        return seen

    def test_whole_numbers(self):
        self.check_many("whole", range(8), 170)

    def test_small_numbers(self):
        seen = self.check_many("small", range(15), 120)
        self.assertLessEqual({(number, -2) for number in (1, 2, 5)}, seen)

    def test_middling_numbers(self):
        self.check_many("middling", range(15), 70)

    def test_large_numbers(self):
        seen = self.check_many("large", range(10), 70)
        self.assertLessEqual({(number, -2) for number in (1, 2, 3, 4, 5, 6, 7)}, seen)

    def test_lists_as_long_as_they_may_be(self):
        for leaning in LEANINGS:
            drawer = Drawer(1, "small", leaning)
            calls = []
            while len(calls) < MOST_CALLS:
                calls.append(drawer.line_drawn(len(calls)) if len(calls) < 6 else drawer.call_drawn())
            self.check(calls)
        drawer = Drawer(2, "middling", "both")
        calls = [drawer.line_drawn(k % 17) for k in range(MOST_CALLS)]
        self.assertEqual(len(joined(calls)), MOST_NUMBERS)
        self.check(calls)
