"""Many calls, drawn up from written seeds, against the helper's second way to every answer."""

import random

from tests.helper import Case, Object, answer_told, first_numbers, form_faults, form_told

# How large slopes and constants are drawn, numerator and denominator each.
SIZES = {
    "whole": ((2, 1), (20, 1)),
    "small": ((3, 3), (6, 3)),
    "middling": ((40, 12), (3000, 50)),
    "large": ((32767, 32767), (2147483647, 2147483647)),
}


def fraction_drawn(chance, most):
    if chance.random() < 0.05:
        return [chance.choice((-most[0], most[0])), chance.choice((1, most[1]))]
    if chance.random() < 0.03:
        return [chance.randint(-2 ** 63, 2 ** 63 - 1), chance.randint(-2, 2)]
    return [chance.randint(-most[0], most[0]), chance.randint(1, most[1])]


def place_drawn(chance):
    return chance.choice((15, 16, 2 ** 32 - 1)) if chance.random() < 0.02 else chance.randrange(6)


def line_drawn(chance, size, h):
    slope, constant = SIZES[size]
    return [0, h] + fraction_drawn(chance, slope) + fraction_drawn(chance, constant)


def call_drawn(chance, size):
    number = chance.choice((0, 0, 1, 1, 2, 3, 3, 3, 4, 4, 4, 5, 5))
    call = [number, place_drawn(chance)]
    if number == 0:
        return line_drawn(chance, size, call[1])
    call.append(place_drawn(chance))
    return call + (fraction_drawn(chance, SIZES[size][0]) if number == 2 else [place_drawn(chance)])


class TestSecondWay(Case):
    def check(self, seed, size, many):
        chance = random.Random(seed)
        kept = Object()
        answered = []
        for k in range(many):
            call = line_drawn(chance, size, k) if k < 6 else call_drawn(chance, size)
            forms = kept.all_forms()
            told = answer_told(call, forms)
            self.assertEqual(kept.answer(call), told, (seed, k, call))
            if told == 0:
                forms[call[1]] = form_told(call, forms)
                self.assertEqual(form_faults(forms[call[1]]), [])
            self.assert_kept(kept, forms)
            answered.append(told)
        self.assertEqual(first_numbers(kept.calls), answered)
        return answered

    def check_many(self, size, seeds, many):
        answered = []
        for seed in seeds:
            answered += self.check(seed, size, many)
        for number in (0, -1, -2):
            self.assertIn(number, answered)

    def test_whole_numbers(self):
        self.check_many("whole", range(300, 320), 150)

    def test_small_numbers(self):
        self.check_many("small", range(30), 100)

    def test_middling_numbers(self):
        self.check_many("middling", range(100, 130), 60)

    def test_large_numbers(self):
        self.check_many("large", range(200, 220), 60)
