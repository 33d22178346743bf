from fractions import Fraction

from tests.helper import (Case, MOST_OTHER, MOST_SLOPE, Object, add, great, hinge, less, line, scale,
                          tent_sum)

BENT = [line(0, 2, 1), line(1, -1, 4), great(0, 0, 1), line(1, Fraction(1, 2), 0), line(2, 3, 3), less(1, 1, 2)]


class TestAdd(Case):
    def test_two_lines(self):
        kept = self.made(add(2, 0, 1), line(0, Fraction(1, 6), 2), line(1, Fraction(1, 10), -5))
        self.assertEqual(kept.form(2), [(None, Fraction(4, 15), -3)])

    def test_breaks_of_both(self):
        kept = self.made(add(2, 0, 1), *BENT)
        self.assertEqual([piece[0] for piece in kept.form(2)], [None, Fraction(-6, 5), 1])

    def test_a_break_of_both_at_one_place_counts_once(self):
        kept = self.made(add(4, 0, 2), *hinge(0, 1, 3), *hinge(2, 3, 3))
        self.assertEqual(kept.form(4), [(None, 0, 0), (3, 2, -6)])

    def test_breaks_on_one_side_only(self):
        self.made(add(4, 0, 2), *tent_sum(0, 3, [1, 2, 3]), line(2, -7, 1))
        self.made(add(4, 2, 0), *tent_sum(0, 3, [1, 2, 3]), line(2, -7, 1))
        self.made(add(7, 0, 6), *tent_sum(0, 3, [1, 2, 3]), *tent_sum(6, 8, [10, 20]))
        self.made(add(7, 0, 6), *tent_sum(0, 3, [10, 20]), *tent_sum(6, 8, [1, 2, 3]))

    def test_breaks_that_cancel_fall_away(self):
        before = tent_sum(0, 3, [-1, 2, Fraction(7, 2)]) + [scale(1, 0, -1)]
        kept = self.made(add(2, 0, 1), *before)
        self.assertEqual(kept.form(2), [(None, 0, 0)])

    def test_one_of_the_breaks_cancels(self):
        before = tent_sum(0, 3, [1, 2]) + tent_sum(1, 3, [2, 5]) + [scale(1, 1, -1)]
        kept = self.made(add(2, 0, 1), *before)
        self.assertEqual([piece[0] for piece in kept.form(2)], [None, 1, 5])

    def test_h_is_f_or_g_or_both(self):
        for call in (add(0, 0, 1), add(1, 0, 1), add(0, 0, 0), add(1, 1, 1), add(5, 0, 0)):
            self.made(call, *BENT)

    def test_32_lines_and_33(self):
        before = tent_sum(0, 3, range(30)) + hinge(1, 3, 40) + hinge(2, 3, 41)
        kept = self.made(add(0, 0, 1), *before)
        self.assertEqual(len(kept.form(0)), 32)
        self.refused(-2, add(0, 0, 2), *before, add(0, 0, 1))
        self.refused(-2, add(9, 0, 2), *before, add(0, 0, 1))

    def test_32_lines_of_two_that_share_their_breaks(self):
        before = tent_sum(0, 3, range(31)) + tent_sum(1, 3, range(31))
        kept = self.made(add(2, 0, 1), *before)
        self.assertEqual(len(kept.form(2)), 32)

    def test_more_breaks_on_the_way_than_fit(self):
        before = tent_sum(0, 3, range(31)) + tent_sum(1, 3, range(5, 31)) + [scale(1, 1, -1)]
        kept = self.made(add(2, 0, 1), *before)
        self.assertEqual(len(kept.form(2)), 6)

    def test_slopes_at_the_bound_and_beyond(self):
        for sign in (1, -1):
            self.made(add(2, 0, 1), line(0, sign * (MOST_SLOPE - 1), 0), line(1, sign, 0))
            self.refused(-2, add(2, 0, 1), line(0, sign * MOST_SLOPE, 0), line(1, sign, 0))
        self.made(add(2, 0, 1), line(0, (1, MOST_SLOPE), 0), line(1, (2, MOST_SLOPE), 0))
        self.refused(-2, add(2, 0, 1), line(0, (1, 16384), 0), line(1, (1, 3), 0))
        self.refused(-2, add(2, 0, 1), line(0, (1, MOST_SLOPE), 0), line(1, (1, 2), 0))
        self.refused(-2, add(2, 0, 1), line(0, (1, 32768 // 2), 0), line(1, 2, 0))

    def test_constants_at_the_bound_and_beyond(self):
        for sign in (1, -1):
            self.made(add(2, 0, 1), line(0, 0, sign * (MOST_OTHER - 1)), line(1, 0, sign))
            self.refused(-2, add(2, 0, 1), line(0, 0, sign * MOST_OTHER), line(1, 0, sign))
        self.made(add(2, 0, 1), line(0, 0, (1, MOST_OTHER)), line(1, 0, (2, MOST_OTHER)))
        self.refused(-2, add(2, 0, 1), line(0, 0, (1, MOST_OTHER)), line(1, 0, (1, 2)))
        self.refused(-2, add(2, 0, 1), line(0, 0, (1, MOST_OTHER)), line(1, 0, 1))

    def test_only_lowest_terms_matter(self):
        self.made(add(2, 0, 1), line(0, (1, 32766), 0), line(1, (1, 32766), 0))
        self.made(add(2, 0, 1), line(0, 0, (1, MOST_OTHER - 1)), line(1, 0, (1, MOST_OTHER - 1)))
        self.made(add(2, 0, 1), line(0, (32767, 2), 0), line(1, (32767, 2), 0))

    def test_a_line_that_is_too_large_further_right(self):
        before = tent_sum(0, 3, [1, 2]) + [scale(0, 0, 16000)]
        self.refused(-2, add(0, 0, 0), *before)
        self.refused(-2, add(0, 1, 1), *tent_sum(0, 3, [0]), *hinge(1, 3, 1500000000))

    def test_wrong_places(self):
        for wrong in (9, 15, 16, 17, 2 ** 32 - 1):
            self.refused(-1, add(0, wrong, 1), *BENT)
            self.refused(-1, add(0, 0, wrong), *BENT)
            self.refused(-1, add(0, wrong, wrong), *BENT)
        for wrong in (16, 2 ** 32 - 1):
            self.refused(-1, add(wrong, 0, 1), *BENT)

    def test_a_wrong_place_comes_before_what_does_not_fit(self):
        before = [line(0, MOST_SLOPE, 0)]
        self.refused(-2, add(15, 0, 0), *before)
        self.refused(-1, add(16, 0, 0), *before)

    def test_nothing_is_kept_at_the_beginning(self):
        kept = Object()
        for f in range(17):
            self.assertEqual(kept.call(add(0, f, f)), [-1])
        self.assertEqual(kept.all_forms(), {})
