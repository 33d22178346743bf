from fractions import Fraction

from tests.helper import Case, MOST_OTHER, MOST_SLOPE, Object, compose, form, great, line


class TestLine(Case):
    def test_a_line_has_its_slope_and_constant(self):
        kept = self.made(line(3, Fraction(2, 3), Fraction(-5, 7)))
        self.assertEqual(kept.form(3), [(None, Fraction(2, 3), Fraction(-5, 7))])
        self.assertEqual(kept.value(3, 21), Fraction(14) - Fraction(5, 7))

    def test_fractions_need_not_be_in_lowest_terms(self):
        kept = self.made(line(0, (6, 4), (-20, 100)))
        self.assertEqual(kept.call(form(0)), [0, 3, 2, -1, 5])

    def test_zero_is_zero_over_one(self):
        kept = self.made(line(0, (0, 32767), (0, 2147483647)))
        self.assertEqual(kept.call(form(0)), [0, 0, 1, 0, 1])

    def test_every_place_from_0_to_15(self):
        kept = Object(*[line(h, h, -h) for h in range(16)])
        self.assert_kept(kept, {h: [(None, h, -h)] for h in range(16)})

    def test_a_new_line_takes_the_old_functions_place(self):
        self.made(line(1, 5, 6), line(1, 1, 2), line(0, -1, 2), great(1, 1, 0))

    def test_largest_numbers(self):
        for s in ((MOST_SLOPE, 1), (-MOST_SLOPE, 1), (1, MOST_SLOPE), (-MOST_SLOPE, MOST_SLOPE)):
            self.made(line(0, s, 0))
        for c in ((MOST_OTHER, 1), (-MOST_OTHER, 1), (1, MOST_OTHER), (MOST_OTHER, MOST_OTHER)):
            self.made(line(0, 0, c))

    def test_numbers_just_beyond(self):
        before = [line(0, 7, 8)]
        for s in ((MOST_SLOPE + 1, 1), (-MOST_SLOPE - 1, 1), (1, MOST_SLOPE + 1)):
            self.refused(-1, line(0, s, 0), *before)
        for c in ((MOST_OTHER + 1, 1), (-MOST_OTHER - 1, 1), (1, MOST_OTHER + 1)):
            self.refused(-1, line(0, 0, c), *before)

    def test_the_bound_is_on_the_numbers_handed_over(self):
        self.refused(-1, line(0, (32768, 32768), 0), line(0, 7, 8))
        self.refused(-1, line(0, (0, 32768), 0), line(0, 7, 8))
        self.refused(-1, line(0, 0, (2147483648, 2147483648)), line(0, 7, 8))
        self.refused(-1, line(0, 0, (0, 2147483648)), line(0, 7, 8))

    def test_denominators_of_0_and_below(self):
        for bottom in (0, -1, -2, -(2 ** 63)):
            self.refused(-1, line(0, (1, bottom), 0), line(0, 7, 8))
            self.refused(-1, line(0, 0, (1, bottom)), line(0, 7, 8))
            self.refused(-1, line(0, (0, bottom), (0, bottom)), line(0, 7, 8))

    def test_each_wrong_number_is_enough(self):
        for call in (line(16, (40000, 1), 0), line(16, 1, (1, 0)), line(0, (40000, 0), (1, -1))):
            self.refused(-1, call, line(0, 7, 8))

    def test_ends_of_what_may_be_handed_in(self):
        for number in (-(2 ** 63), 2 ** 63 - 1):
            for numbers in ((number, 1, 1, 1), (1, number, 1, 1), (1, 1, number, 1), (1, 1, 1, number)):
                self.refused(-1, [0, 0] + list(numbers), line(0, 7, 8))

    def test_places_above_15(self):
        for h in (16, 17, 255, 2 ** 31, 2 ** 32 - 1):
            self.refused(-1, line(h, 1, 1), line(0, 7, 8))

    def test_a_refused_line_keeps_nothing(self):
        kept = self.refused(-1, line(5, (1, 0), 0), line(0, 7, 8))
        self.assertEqual(kept.call(compose(1, 5, 0)), [-1])
