from fractions import Fraction

from tests.helper import Case, MOST_OTHER, MOST_SLOPE, great, hinge, line, scale, tent_sum

BENT = tent_sum(0, 3, [-2, Fraction(1, 3), 5])


class TestScale(Case):
    def test_a_multiple(self):
        kept = self.made(scale(1, 0, Fraction(3, 2)), *hinge(0, 1, 4))
        self.assertEqual(kept.form(1), [(None, 0, 0), (4, Fraction(3, 2), -6)])

    def test_many_factors(self):
        for s in (1, -1, 2, Fraction(-7, 3), Fraction(1, 32767), (10, 4), (-6, 3)):
            self.made(scale(1, 0, s), *BENT)

    def test_by_0_no_break_is_left(self):
        for s in (0, (0, 5), (0, 32767)):
            kept = self.made(scale(1, 0, s), *BENT)
            self.assertEqual(kept.form(1), [(None, 0, 0)])

    def test_h_is_f(self):
        self.made(scale(0, 0, -3), *BENT)

    def test_32_lines_stay_32(self):
        kept = self.made(scale(0, 0, -1), *tent_sum(0, 3, range(31)))
        self.assertEqual(len(kept.form(0)), 32)

    def test_largest_factors(self):
        for s in ((MOST_SLOPE, 1), (-MOST_SLOPE, 1), (1, MOST_SLOPE), (-1, MOST_SLOPE)):
            self.made(scale(1, 0, s), line(0, 1, 1))

    def test_slopes_beyond(self):
        self.made(scale(1, 0, 4681), line(0, 7, 0))
        self.refused(-2, scale(1, 0, 4682), line(0, 7, 0))
        self.refused(-2, scale(1, 0, -4682), line(0, 7, 0))
        self.made(scale(1, 0, (1, 4681)), line(0, (1, 7), 0))
        self.refused(-2, scale(1, 0, (1, 4682)), line(0, (1, 7), 0))

    def test_constants_beyond(self):
        self.made(scale(1, 0, 2), line(0, 0, 1073741823))
        self.refused(-2, scale(1, 0, 2), line(0, 0, 1073741824))
        self.refused(-2, scale(1, 0, -2), line(0, 0, 1073741824))
        self.made(scale(1, 0, (1, 2)), line(0, 0, (1, 1073741823)))
        self.refused(-2, scale(1, 0, (1, 2)), line(0, 0, (1, 1073741824 + 1)))

    def test_a_line_beyond_further_right(self):
        before = [line(0, 1, 0), line(1, 20000, 0), great(0, 0, 1)]
        self.refused(-2, scale(0, 0, 2), *before)

    def test_only_lowest_terms_matter(self):
        self.made(scale(1, 0, (1, MOST_SLOPE)), line(0, MOST_SLOPE, MOST_SLOPE * 65000))
        self.made(scale(1, 0, (30000, 30001)), line(0, (30001, 30000), (30001 * 3, 7)))
        self.made(scale(1, 0, MOST_SLOPE), line(0, (1, MOST_SLOPE), (MOST_OTHER, MOST_SLOPE)))

    def test_factors_out_of_range(self):
        for s in ((1, 0), (1, -1), (0, 0), (-1, -1), (MOST_SLOPE + 1, 1), (-MOST_SLOPE - 1, 1),
                  (1, MOST_SLOPE + 1), (32768, 32768), (0, 32768), (2 ** 63 - 1, 1), (-(2 ** 63), 1),
                  (1, 2 ** 63 - 1), (1, -(2 ** 63))):
            self.refused(-1, scale(0, 0, s), *BENT)
            self.refused(-1, scale(9, 0, s), *BENT)

    def test_wrong_places(self):
        for wrong in (9, 15, 16, 2 ** 32 - 1):
            self.refused(-1, scale(0, wrong, 1), *BENT)
        for wrong in (16, 2 ** 32 - 1):
            self.refused(-1, scale(wrong, 0, 1), *BENT)

    def test_wrong_inputs_come_before_what_does_not_fit(self):
        before = [line(0, MOST_SLOPE, MOST_OTHER)]
        self.refused(-2, scale(1, 0, 2), *before)
        self.refused(-1, scale(16, 0, 2), *before)
        self.refused(-1, scale(1, 0, (2, 0)), *before)
        self.refused(-1, scale(1, 0, (2, -1)), *before)
        self.refused(-1, scale(1, 0, (40000, 1)), *before)
        self.refused(-1, scale(1, 0, (2, 40001)), *before)
        self.refused(-1, scale(1, 7, 2), *before)
