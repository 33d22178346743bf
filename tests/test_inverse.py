from fractions import Fraction

from tests.helper import (Case, MOST_OTHER, MOST_SLOPE, Object, compose, falling, form, great, hinge, inverse, less,
                          line, rising, same, scale, size_of_x)

PLACES = [-7, Fraction(-3, 2), 0, Fraction(2, 3), 11]
X = [(None, 1, 0)]


def bent_once(left_slope, right_slope, place):
    """Calls that leave at 0 the line left_slope x with the steeper slope right of the place."""
    return [line(0, left_slope, 0), line(1, right_slope, (left_slope - right_slope) * Fraction(place)), great(0, 0, 1)]


class TestInverse(Case):
    def turned(self, *before):
        """The inverse of function 0 is made as told, gives it back, and undoes it from both sides."""
        kept = self.made(inverse(8, 0), *before)
        kept = self.made(inverse(9, 8), *kept.calls)
        self.assertEqual(kept.form(9), kept.form(0))
        self.assertEqual(kept.call(same(9, 0)), [0, 1])
        for call in (compose(10, 8, 0), compose(10, 0, 8)):
            self.assertEqual(kept.call(call), [0])
            self.assertEqual(kept.form(10), X)
        return kept

    def test_a_rising_line(self):
        kept = self.turned(line(0, Fraction(2, 3), -4))
        self.assertEqual(kept.form(8), [(None, Fraction(3, 2), 6)])

    def test_a_falling_line(self):
        kept = self.turned(line(0, Fraction(-2, 3), Fraction(5, 7)))
        self.assertEqual(kept.form(8), [(None, Fraction(-3, 2), Fraction(15, 14))])

    def test_the_lines_x_and_minus_x_are_their_own(self):
        for s in (1, -1):
            kept = self.turned(line(0, s, 0))
            self.assertEqual(kept.form(8), kept.form(0))

    def test_a_constant_of_0_is_0_over_1(self):
        for s in ((3, 4), (-3, 4)):
            kept = self.turned(line(0, s, (0, 9)))
            self.assertEqual(kept.ask([form(8)]), [[0, 4 if s[0] > 0 else -4, 3, 0, 1]])

    def test_one_break_rising(self):
        kept = self.turned(line(0, 1, 0), line(1, 2, -3), great(0, 0, 1))
        self.assertEqual(kept.form(8), [(None, 1, 0), (3, Fraction(1, 2), Fraction(3, 2))])

    def test_one_break_falling(self):
        # -x left of 1, -2x + 1 right of it: from above, so the line at the right comes first.
        kept = self.turned(line(0, -1, 0), line(1, -2, 1), less(0, 0, 1))
        self.assertEqual(kept.form(8), [(None, Fraction(-1, 2), Fraction(1, 2)), (-1, -1, 0)])

    def test_many_breaks_rising(self):
        kept = self.turned(*rising(0, 3, PLACES))
        self.assertEqual(len(kept.form(8)), 6)
        self.assertEqual([piece[0] for piece in kept.form(8)[1:]], [kept.value(0, x) for x in PLACES])

    def test_many_breaks_falling(self):
        kept = self.turned(*falling(0, 3, PLACES))
        self.assertEqual(len(kept.form(8)), 6)
        self.assertEqual([piece[0] for piece in kept.form(8)[1:]], [kept.value(0, x) for x in reversed(PLACES)])

    def test_32_lines(self):
        for before in (rising(0, 3, range(-15, 16)), falling(0, 3, range(-15, 16))):
            self.assertEqual(len(self.turned(*before).form(8)), 32)

    def test_slopes_by_turns(self):
        # min(max(x, 3x), x + 4) and what it is turned upside down.
        before = [line(0, 1, 0), line(1, 3, 0), great(0, 0, 1), line(1, 1, 4), less(0, 0, 1)]
        kept = self.turned(*before)
        self.assertEqual(kept.form(8), [(None, 1, 0), (0, Fraction(1, 3), 0), (6, 1, -4)])
        kept = self.turned(*before, scale(0, 0, -1))
        self.assertEqual(kept.form(8), [(None, -1, -4), (-6, Fraction(-1, 3), 0), (0, -1, 0)])

    def test_h_is_f(self):
        for before in ([line(0, -2, 5)], rising(0, 3, PLACES), falling(0, 3, PLACES)):
            kept = self.made(inverse(0, 0), *before)
            again = self.made(inverse(0, 0), *kept.calls)
            self.assertEqual(again.form(0), Object(*before).form(0))

    def test_a_function_that_is_kept_at_h_is_replaced(self):
        self.made(inverse(1, 0), line(0, 3, 1), line(1, 0, 7))
        self.made(inverse(1, 0), line(0, 3, 1), *size_of_x(1, 2))

    def test_steepest_and_flattest_slopes(self):
        for s in ((MOST_SLOPE, 1), (-MOST_SLOPE, 1), (1, MOST_SLOPE), (-1, MOST_SLOPE), (32767, 32766)):
            self.turned(line(0, s, 0))

    def test_constants_at_the_bound_and_beyond(self):
        for sign in (1, -1):
            self.turned(line(0, 1, sign * MOST_OTHER))
            self.turned(line(0, (1, 2), (sign * MOST_OTHER, 2)))
            self.turned(line(0, (-1, 2), sign * 1073741823))
            self.refused(-2, inverse(0, 0), line(0, (1, 2), sign * 1073741824))
            self.refused(-2, inverse(8, 0), line(0, (-1, 2), sign * 1073741824))
            self.turned(line(0, 2, (sign, 1073741823)))
            self.refused(-2, inverse(8, 0), line(0, 2, (sign, 1073741825)))
            self.refused(-2, inverse(8, 0), line(0, -2, (sign, MOST_OTHER)))
            self.refused(-2, inverse(8, 0), line(0, (sign, MOST_SLOPE), MOST_OTHER))

    def test_only_lowest_terms_matter(self):
        self.turned(line(0, MOST_SLOPE, MOST_SLOPE * 65537))
        self.turned(line(0, (MOST_SLOPE, 2), (MOST_SLOPE, MOST_OTHER)))
        self.turned(line(0, (3, 7), (MOST_OTHER - 1, 7)))

    def test_breaks_at_the_bound_and_beyond(self):
        for sign in (1, -1):
            self.turned(*bent_once(4, 5, sign * Fraction(MOST_OTHER, 4)))
            self.refused(-2, inverse(8, 0), *bent_once(4, 5, sign * 536870912))
            self.refused(-2, inverse(0, 0), *bent_once(4, 5, sign * 536870912), scale(0, 0, -1))
            self.turned(*bent_once(Fraction(1, 2), 1, Fraction(sign * 2, MOST_OTHER)))
            self.refused(-2, inverse(8, 0), *bent_once(Fraction(1, 2), Fraction(3, 2), Fraction(sign, 1073741824)))

    def test_a_line_that_does_not_fit_further_right(self):
        # The inverse of x/2 + 1073741824 has the constant -2147483648; the other line's fits.
        far = [line(0, (5, 2), 0), line(1, (1, 2), 1073741824)]
        self.refused(-2, inverse(8, 0), *far, great(0, 0, 1))
        self.refused(-2, inverse(8, 0), *far, less(0, 0, 1))
        self.refused(-2, inverse(8, 0), *far, less(0, 0, 1), scale(0, 0, -1))

    def test_a_slope_of_0_alone(self):
        for c in (0, 5, -5, (1, MOST_OTHER)):
            self.refused(-5, inverse(8, 0), line(0, 0, c))
            self.refused(-5, inverse(0, 0), line(0, 0, c))

    def test_a_slope_of_0_beside_others(self):
        level = [line(5, 0, 1)]
        for before in (rising(0, 3, PLACES), falling(0, 3, PLACES)):
            self.refused(-5, inverse(8, 0), *before, *level, great(0, 0, 5))
            self.refused(-5, inverse(8, 0), *before, *level, less(0, 0, 5))
            self.refused(-5, inverse(0, 0), *before, *level, less(0, 0, 5))
        between = [line(0, 1, 0), line(1, 0, 3), less(0, 0, 1), line(1, 2, -20), great(0, 0, 1)]
        self.refused(-5, inverse(8, 0), *between)
        self.refused(-5, inverse(8, 0), *between, scale(0, 0, -1))

    def test_slopes_of_both_signs(self):
        for factor in (1, -1, Fraction(1, 7)):
            self.refused(-5, inverse(8, 0), *size_of_x(0, 1), scale(0, 0, factor))
        self.refused(-5, inverse(8, 0), *rising(0, 3, PLACES), line(1, -1, 100), less(0, 0, 1))
        self.refused(-5, inverse(8, 0), *rising(0, 3, PLACES), line(1, -1, -100), great(0, 0, 1))
        zigzag = size_of_x(0, 1) + [line(1, 1, 0), scale(0, 0, 2), line(2, -1, 9), less(0, 0, 2), great(0, 0, 1)]
        self.refused(-5, inverse(8, 0), *zigzag)

    def test_slopes_of_all_three_kinds(self):
        self.refused(-5, inverse(8, 0), *size_of_x(0, 1), line(1, 0, 3), great(0, 0, 1))
        self.refused(-5, inverse(8, 0), *size_of_x(0, 1), line(1, 0, 3), less(0, 0, 1))

    def test_not_one_to_one_comes_before_what_does_not_fit(self):
        steep = [line(0, (1, 2), MOST_OTHER), line(1, (-1, 2), MOST_OTHER)]
        self.refused(-2, inverse(8, 0), *steep)
        self.refused(-2, inverse(8, 1), *steep)
        self.refused(-5, inverse(8, 0), *steep, great(0, 0, 1))
        self.refused(-5, inverse(8, 0), *steep, less(0, 0, 1))
        self.refused(-5, inverse(8, 0), *steep, line(1, 0, MOST_OTHER), great(0, 0, 1))
        self.refused(-5, inverse(8, 0), *steep, line(1, 0, MOST_OTHER), less(0, 0, 1))

    def test_wrong_places(self):
        for before in ([line(0, 2, 1)], [line(0, 0, 1)], size_of_x(0, 1), [line(0, (1, 2), MOST_OTHER)]):
            for wrong in (16, 17, 255, 2 ** 31, 2 ** 32 - 1):
                self.refused(-1, inverse(wrong, 0), *before)
                self.refused(-1, inverse(0, wrong), *before)
                self.refused(-1, inverse(wrong, wrong), *before)
            for empty in (2, 9, 15):
                self.refused(-1, inverse(0, empty), *before)
                self.refused(-1, inverse(empty, empty), *before)
                self.refused(-1, inverse(16, empty), *before)

    def test_the_last_place(self):
        self.made(inverse(15, 15), *hinge(0, 1, 4), line(15, 2, 3))

    def test_nothing_is_kept_at_the_beginning(self):
        kept = Object()
        for f in range(17):
            self.assertEqual(kept.call(inverse(0, f)), [-1])
        self.assertEqual(kept.all_forms(), {})
