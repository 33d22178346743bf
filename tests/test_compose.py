from fractions import Fraction

from tests.helper import (Case, MOST_OTHER, MOST_SLOPE, add, compose, great, hinge, less, line, same, scale,
                          size_of_x, tent_sum)

BENT = tent_sum(0, 3, [-2, Fraction(1, 3), 5]) + tent_sum(1, 3, [-1, 0, 9]) + [scale(1, 1, -2), line(2, 1, 3),
                                                                                 add(1, 1, 2)]


class TestCompose(Case):
    def test_two_lines(self):
        kept = self.made(compose(2, 0, 1), line(0, 2, 3), line(1, Fraction(1, 5), 7))
        self.assertEqual(kept.form(2), [(None, Fraction(2, 5), 17)])
        kept = self.made(compose(2, 1, 0), line(0, 2, 3), line(1, Fraction(1, 5), 7))
        self.assertEqual(kept.form(2), [(None, Fraction(2, 5), Fraction(38, 5))])

    def test_bent_outside(self):
        kept = self.made(compose(2, 0, 1), *hinge(0, 1, 4), line(1, 2, 0))
        self.assertEqual(kept.form(2), [(None, 0, 0), (2, 2, -4)])

    def test_bent_outside_and_falling_inside(self):
        kept = self.made(compose(2, 0, 1), *tent_sum(0, 3, [1, 4, 6]), line(1, -2, 0))
        self.assertEqual([piece[0] for piece in kept.form(2)], [None, -3, -2, Fraction(-1, 2)])

    def test_bent_inside(self):
        kept = self.made(compose(2, 0, 1), line(0, -3, 1), *hinge(1, 2, 4))
        self.assertEqual(kept.form(2), [(None, 0, 1), (4, -3, 13)])

    def test_bent_both(self):
        for f, g in ((0, 1), (1, 0), (0, 0), (1, 1)):
            self.made(compose(5, f, g), *BENT)

    def test_h_is_f_or_g_or_both(self):
        for call in (compose(0, 0, 1), compose(1, 0, 1), compose(0, 1, 0), compose(0, 0, 0), compose(1, 1, 1)):
            self.made(call, *BENT)

    def test_with_a_line_of_slope_0_inside(self):
        for c in (-7, -2, 0, Fraction(1, 3), 5, 9):
            kept = self.made(compose(6, 0, 5), *BENT, line(5, 0, c))
            self.assertEqual(kept.form(6), [(None, 0, kept.value(0, c))])

    def test_with_a_line_of_slope_0_outside(self):
        kept = self.made(compose(6, 5, 0), *BENT, line(5, 0, 8))
        self.assertEqual(kept.form(6), [(None, 0, 8)])

    def test_flat_pieces_inside(self):
        flat = size_of_x(6, 7) + [line(7, 0, 2), great(6, 6, 7), line(7, 0, 3), less(6, 6, 7)]
        for place in (1, 2, Fraction(5, 2), 3, 4):
            self.made(compose(9, 0, 6), *hinge(0, 1, place), *flat)

    def test_a_break_met_at_a_break_counts_once(self):
        kept = self.made(compose(6, 0, 1), *hinge(0, 3, 2), *size_of_x(1, 2), line(2, 1, 2), line(4, 5, 2),
                         great(1, 2, 4))
        self.assertEqual([piece[0] for piece in kept.form(6)], [None, 0])

    def test_a_break_only_touched_makes_none(self):
        kept = self.made(compose(6, 0, 1), *hinge(0, 3, 0), *size_of_x(1, 2))
        self.assertEqual(kept.form(6), [(None, -1, 0), (0, 1, 0)])
        kept = self.made(compose(6, 0, 1), *hinge(0, 3, 0), *size_of_x(1, 2), scale(1, 1, -1))
        self.assertEqual(kept.form(6), [(None, 0, 0)])

    def test_breaks_fall_away_where_the_outer_undoes_the_inner(self):
        before = [line(0, 1, 0), line(1, 2, 0), great(0, 0, 1), line(2, Fraction(1, 2), 0), line(3, 1, 0),
                  less(1, 2, 3)]
        for call in (compose(4, 0, 1), compose(4, 1, 0)):
            kept = self.made(call, *before)
            self.assertEqual(kept.form(4), [(None, 1, 0)])

    def test_compositions_go_on(self):
        before = BENT + size_of_x(6, 7) + [line(7, Fraction(-2, 3), 1), add(6, 6, 7)]
        before += [compose(8, 0, 1), compose(9, 1, 6)]
        kept = self.made(compose(10, 8, 6), *before)
        kept = self.made(compose(11, 0, 9), *kept.calls)
        self.assertEqual(kept.form(10), kept.form(11))
        self.assertEqual(kept.call(same(10, 11)), [0, 1])

    def test_the_line_x_changes_nothing(self):
        before = tent_sum(0, 3, range(31)) + [line(5, 1, 0)]
        for call in (compose(6, 0, 5), compose(6, 5, 0)):
            kept = self.made(call, *before)
            self.assertEqual(kept.form(6), kept.form(0))
            self.assertEqual(len(kept.form(6)), 32)

    def test_32_lines_and_33(self):
        slanted = [line(5, 1, 0), add(0, 0, 5)]
        kept = self.made(compose(9, 0, 6), *tent_sum(0, 3, range(1, 16)), *slanted, *size_of_x(6, 7))
        self.assertEqual(len(kept.form(9)), 32)
        self.refused(-2, compose(9, 0, 6), *tent_sum(0, 3, range(1, 17)), *size_of_x(6, 7))
        self.refused(-2, compose(9, 0, 6), *tent_sum(0, 3, range(1, 17)), *slanted, *size_of_x(6, 7))

    def test_32_lines_and_33_of_breaks_inside(self):
        outer = hinge(6, 7, -5) + [line(7, 1, 0), add(6, 6, 7)]
        for many, told in ((30, 0), (31, -2)):
            before = tent_sum(0, 3, range(many)) + [line(5, 1, 0), add(0, 0, 5)] + outer
            if told == 0:
                self.assertEqual(len(self.made(compose(9, 6, 0), *before).form(9)), 32)
            else:
                self.refused(told, compose(9, 6, 0), *before)

    def test_many_more_breaks_on_the_way_than_fit(self):
        before = tent_sum(0, 3, range(31)) + tent_sum(1, 3, range(31)) + [scale(1, 1, -1)]
        kept = self.made(compose(9, 0, 1), *before)
        self.assertEqual(kept.form(9), [(None, 0, 0)])

    def test_slopes_at_the_bound_and_beyond(self):
        self.made(compose(2, 0, 1), line(0, 7, 0), line(1, 4681, 0))
        self.refused(-2, compose(2, 0, 1), line(0, 7, 0), line(1, 4682, 0))
        self.refused(-2, compose(2, 0, 1), line(0, -7, 0), line(1, 4682, 0))
        self.made(compose(2, 0, 1), line(0, (1, 7), 0), line(1, (1, 4681), 0))
        self.refused(-2, compose(2, 0, 1), line(0, (1, 7), 0), line(1, (1, 4682), 0))

    def test_constants_at_the_bound_and_beyond(self):
        self.made(compose(2, 0, 1), line(0, 1, 1), line(1, 1, MOST_OTHER - 1))
        self.refused(-2, compose(2, 0, 1), line(0, 1, 1), line(1, 1, MOST_OTHER))
        self.refused(-2, compose(2, 0, 1), line(0, 1, -1), line(1, 1, -MOST_OTHER))
        self.made(compose(2, 0, 1), line(0, (1, 2), 0), line(1, 1, (1, 1073741823)))
        self.refused(-2, compose(2, 0, 1), line(0, (1, 2), 0), line(1, 1, (1, 1073741825)))

    def test_breaks_at_the_bound_and_beyond(self):
        self.made(compose(2, 0, 1), *hinge(0, 1, 5), line(1, 1, 5 - MOST_OTHER))
        self.refused(-2, compose(2, 0, 1), *hinge(0, 1, 6), line(1, 1, 5 - MOST_OTHER))
        self.made(compose(2, 0, 1), *hinge(0, 1, -5), line(1, 1, MOST_OTHER - 5))
        self.refused(-2, compose(2, 0, 1), *hinge(0, 1, -6), line(1, 1, MOST_OTHER - 5))
        self.made(compose(2, 0, 1), *hinge(0, 1, 0), line(1, 1, (1, MOST_OTHER)))
        self.refused(-2, compose(2, 0, 1), *hinge(0, 1, 0), line(1, 2, (1, MOST_OTHER)))

    def test_what_stands_on_the_way_is_no_matter(self):
        kept = self.made(compose(2, 0, 1), line(0, MOST_SLOPE, -MOST_OTHER), line(1, 0, 131072))
        self.assertEqual(kept.form(2), [(None, 0, MOST_SLOPE * 131072 - MOST_OTHER)])
        self.made(compose(2, 0, 1), line(0, MOST_SLOPE, 0), line(1, (1, MOST_SLOPE), (5, MOST_SLOPE)))
        self.made(compose(2, 0, 1), line(0, (30001, 30000), 0), line(1, (30000, 30001), (30000, 30001)))

    def test_a_line_that_is_never_met_is_no_matter(self):
        steep = [line(0, 1, 0), line(1, MOST_SLOPE, 0), great(0, 0, 1)]
        self.refused(-2, compose(2, 0, 3), *steep, line(3, 2, 0))
        kept = self.made(compose(2, 0, 3), *steep, line(3, 2, 0), line(4, 0, -3), less(3, 3, 4))
        self.assertEqual(kept.form(2), kept.form(3))

    def test_a_break_that_is_never_met_is_no_matter(self):
        # Function 3 would reach 100 at 1000100 * 32767, but stops rising at 0.
        far = hinge(0, 1, 100) + [line(3, (1, MOST_SLOPE), -1000000)]
        self.refused(-2, compose(2, 0, 3), *far)
        kept = self.made(compose(2, 0, 3), *far, line(4, 0, -1000000), less(3, 3, 4))
        self.assertEqual(kept.form(2), [(None, 0, 0)])

    def test_wrong_places(self):
        for wrong in (9, 15, 16, 2 ** 32 - 1):
            self.refused(-1, compose(0, wrong, 1), *BENT)
            self.refused(-1, compose(0, 0, wrong), *BENT)
        for wrong in (16, 2 ** 32 - 1):
            self.refused(-1, compose(wrong, 0, 1), *BENT)

    def test_a_wrong_place_comes_before_what_does_not_fit(self):
        before = [line(0, MOST_SLOPE, 0)]
        self.refused(-2, compose(15, 0, 0), *before)
        self.refused(-1, compose(16, 0, 0), *before)
