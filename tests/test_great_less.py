from fractions import Fraction

from tests.helper import Case, MOST_OTHER, MOST_SLOPE, add, below, great, hinge, less, line, same, scale, tent_sum

BENT = tent_sum(0, 3, [-2, Fraction(1, 3), 5]) + tent_sum(1, 3, [-1, 0, 9]) + [scale(1, 1, -2), line(2, 1, 3),
                                                                                 add(1, 1, 2)]


def zigzag(h, ups, last):
    """Calls that leave at h a function with a break at 1, 2, .. last, up and down by turns."""
    calls = [line(h, ups, 0)]
    for place in range(1, last + 1):
        turn = -2 * ups if place % 2 == 1 else 2 * ups
        calls += hinge(h + 1, h + 2, place) + [scale(h + 1, h + 1, turn), add(h, h, h + 1)]
    return calls


class TestGreatAndLess(Case):
    def both(self, h, f, g, *before):
        """Made both ways; and the two together are the sum."""
        of_greater = self.made(great(h, f, g), *before)
        of_lesser = self.made(less(h, f, g), *before)
        self.made(great(12, f, g), *before)
        kept = self.made(less(13, f, g), *before, great(12, f, g))
        self.assertEqual(kept.call(add(14, 12, 13)), [0])
        self.assertEqual(kept.call(add(15, f, g)), [0])
        self.assertEqual(kept.form(14), kept.form(15))
        self.assertEqual(kept.ask([same(14, 15), below(13, 12), below(f, 12), below(13, g)]), [[0, 1]] * 4)
        return (of_greater.form(h), of_lesser.form(h))

    def both_refused(self, number, h, f, g, *before):
        self.refused(number, great(h, f, g), *before)
        self.refused(number, less(h, f, g), *before)

    def test_two_lines_that_cross(self):
        upper, lower = self.both(2, 0, 1, line(0, 1, 0), line(1, -1, 1))
        self.assertEqual(upper, [(None, -1, 1), (Fraction(1, 2), 1, 0)])
        self.assertEqual(lower, [(None, 1, 0), (Fraction(1, 2), -1, 1)])

    def test_two_lines_side_by_side(self):
        upper, lower = self.both(2, 0, 1, line(0, 3, 1), line(1, 3, -1))
        self.assertEqual((upper, lower), ([(None, 3, 1)], [(None, 3, -1)]))
        upper, lower = self.both(2, 1, 0, line(0, 3, 1), line(1, 3, -1))
        self.assertEqual((upper, lower), ([(None, 3, 1)], [(None, 3, -1)]))

    def test_bent_functions(self):
        self.both(4, 0, 1, *BENT)
        self.both(4, 1, 0, *BENT)

    def test_of_a_function_and_itself(self):
        before = tent_sum(0, 3, range(5))
        for h in (0, 7):
            upper, lower = self.both(h, 0, 0, *before)
            self.assertEqual(upper, lower)
            self.assertEqual(len(upper), 6)

    def test_h_is_f_or_g(self):
        for h in (0, 1):
            self.both(h, 0, 1, *BENT)
            self.both(h, 1, 0, *BENT)

    def test_they_cross_at_a_break(self):
        before = tent_sum(0, 3, [0, 2]) + [line(1, -1, 4)]
        self.both(4, 0, 1, *before)
        before = hinge(0, 3, 2) + [scale(1, 0, -1)]
        upper, lower = self.both(4, 0, 1, *before)
        self.assertEqual((len(upper), len(lower)), (2, 2))

    def test_they_touch_without_crossing(self):
        before = hinge(0, 3, 0) + [line(1, -1, 0), great(0, 0, 1), line(1, 0, 0)]
        upper, lower = self.both(4, 0, 1, *before)
        self.assertEqual(upper, [(None, -1, 0), (0, 1, 0)])
        self.assertEqual(lower, [(None, 0, 0)])

    def test_they_run_together_for_a_while(self):
        before = tent_sum(0, 3, [1, 4]) + tent_sum(1, 3, [1, 6])
        self.both(5, 0, 1, *before)

    def test_breaks_below_the_other_fall_away(self):
        before = tent_sum(0, 3, range(10)) + [scale(0, 0, -1), line(1, 0, 5)]
        upper, lower = self.both(4, 0, 1, *before)
        self.assertEqual(upper, [(None, 0, 5)])
        self.assertEqual(len(lower), 11)

    def test_32_lines_and_33(self):
        falling = [line(1, -1, -1)]
        kept = self.made(great(2, 0, 1), *tent_sum(0, 3, range(30)), *falling)
        self.assertEqual(len(kept.form(2)), 32)
        self.refused(-2, great(2, 0, 1), *tent_sum(0, 3, range(31)), *falling)
        kept = self.made(less(2, 0, 1), *tent_sum(0, 3, range(30)), scale(0, 0, -1), line(1, 1, 1))
        self.assertEqual(len(kept.form(2)), 32)
        self.refused(-2, less(2, 0, 1), *tent_sum(0, 3, range(31)), scale(0, 0, -1), line(1, 1, 1))

    def test_crossings_make_32_lines_and_33(self):
        level = [line(5, 0, Fraction(1, 2))]
        self.assertEqual(len(self.made(great(4, 0, 5), *zigzag(0, 1, 20), *level).form(4)), 32)
        self.assertEqual(len(self.made(less(4, 0, 5), *zigzag(0, 1, 20), *level).form(4)), 32)
        self.both_refused(-2, 4, 0, 5, *zigzag(0, 1, 22), *level)
        upward = [scale(0, 0, -1), line(5, 0, Fraction(-1, 2))]
        self.both_refused(-2, 4, 0, 5, *zigzag(0, 1, 22), *upward)

    def test_more_breaks_on_the_way_than_fit(self):
        before = tent_sum(0, 3, range(20)) + [scale(0, 0, -1)]
        before += tent_sum(1, 3, [Fraction(1, 2) + k for k in range(20)])
        kept = self.made(great(2, 0, 1), *before)
        self.assertEqual(kept.form(2), kept.form(1))
        kept = self.made(less(2, 0, 1), *before)
        self.assertEqual(kept.form(2), kept.form(0))

    def test_breaks_at_the_bound_and_beyond(self):
        most = MOST_OTHER
        for sign in (1, -1):
            self.both(2, 0, 1, line(0, 1, -sign * most), line(1, 0, 0))
            beyond = [line(0, Fraction(1, 2), -sign * Fraction(most + 1, 2)), line(1, 0, 0)]
            self.both_refused(-2, 2, 0, 1, *beyond)
        self.both(2, 0, 1, line(0, 1, (1, most)), line(1, 0, 0))
        self.both_refused(-2, 2, 0, 1, line(0, 2, (1, most)), line(1, 0, 0))

    def test_a_crossing_that_does_not_fit_is_no_matter_outside_its_piece(self):
        # The first line of function 0 would meet 0 at 2147483648, but goes only to 100.
        before = [line(0, Fraction(1, 2), -1073741824), line(1, 0, 0)]
        self.both_refused(-2, 2, 0, 1, *before)
        before += [line(3, 0, 50 - 1073741824), less(0, 0, 3)]
        upper, lower = self.both(2, 0, 1, *before)
        self.assertEqual(upper, [(None, 0, 0)])
        self.assertEqual([piece[0] for piece in lower], [None, 100])

    def test_lines_that_are_not_chosen_are_no_matter(self):
        before = [line(0, MOST_SLOPE, 0), line(1, MOST_SLOPE, MOST_OTHER)]
        self.assertEqual(len(self.made(great(2, 0, 1), *before).form(2)), 1)

    def test_wrong_places(self):
        for wrong in (9, 15, 16, 2 ** 32 - 1):
            self.both_refused(-1, 0, wrong, 1, *BENT)
            self.both_refused(-1, 0, 0, wrong, *BENT)
        for wrong in (16, 2 ** 32 - 1):
            self.both_refused(-1, wrong, 0, 1, *BENT)

    def test_a_wrong_place_comes_before_what_does_not_fit(self):
        before = [line(0, 2, (1, MOST_OTHER)), line(1, 0, 0)]
        self.both_refused(-2, 15, 0, 1, *before)
        self.both_refused(-1, 16, 0, 1, *before)
