from fractions import Fraction

from tests.helper import (Case, MOST_OTHER, MOST_SLOPE, Object, add, below, compose, great, hinge, inverse, less, line,
                          rising, same, scale, size_of_x, tent_sum)

PLACES = [-7, Fraction(-3, 2), 0, Fraction(2, 3), 11]


def tooth(h, spare, left, peak, right):
    """Calls that leave at h a function that is above 0 between left and right only, and 0 elsewhere."""
    calls = [line(h, 0, 0)]
    for place, turn in ((left, right - peak), (peak, left - right), (right, peak - left)):
        calls += hinge(spare, spare + 1, place) + [scale(spare, spare, turn), add(h, h, spare)]
    return calls


class SameOrBelow(Case):
    def compared(self, is_same, f_is_below, g_is_below, *before):
        """Functions 0 and 1, compared in all ways."""
        self.told([is_same], same(0, 1), *before)
        self.told([is_same], same(1, 0), *before)
        self.told([f_is_below], below(0, 1), *before)
        self.told([g_is_below], below(1, 0), *before)
        for h in (0, 1):
            self.told([1], same(h, h), *before)
            self.told([1], below(h, h), *before)


class TestSame(SameOrBelow):
    def test_equal_lines(self):
        self.compared(1, 1, 1, line(0, 2, 3), line(1, 2, 3))
        self.compared(1, 1, 1, line(0, (2, 4), (-6, 9)), line(1, (100, 200), (-2, 3)))
        self.compared(1, 1, 1, line(0, (0, 7), (0, 9)), line(1, 0, 0))

    def test_equal_functions_made_in_different_ways(self):
        self.compared(1, 1, 1, *size_of_x(0, 1), *hinge(1, 2, 0), scale(1, 1, 2), line(2, -1, 0), add(1, 1, 2))
        self.compared(1, 1, 1, *tent_sum(0, 3, PLACES), *tent_sum(1, 3, PLACES[::-1]))
        self.compared(1, 1, 1, *tent_sum(0, 3, PLACES), add(1, 0, 0), scale(1, 1, (1, 2)))
        self.compared(1, 1, 1, *rising(0, 3, PLACES), inverse(1, 0), inverse(1, 1))
        self.compared(1, 1, 1, *rising(5, 3, PLACES), inverse(6, 5), compose(0, 6, 5), compose(1, 5, 6))
        self.compared(1, 1, 1, *tent_sum(0, 3, PLACES), line(5, 1, 0), compose(1, 0, 5))

    def test_functions_whose_breaks_fell_away(self):
        self.compared(1, 1, 1, *tent_sum(5, 3, PLACES), scale(6, 5, -1), add(0, 5, 6), line(1, 0, 0))
        self.compared(1, 1, 1, *tent_sum(5, 3, PLACES), scale(0, 5, 0), line(1, 0, 0))
        self.compared(1, 1, 1, *tent_sum(5, 3, PLACES), line(6, 0, -1), less(0, 5, 6), line(1, 0, -1))

    def test_functions_of_32_lines(self):
        before = tent_sum(0, 3, range(31)) + tent_sum(1, 3, range(30, -1, -1))
        self.compared(1, 1, 1, *before)
        self.compared(0, 1, 0, *before, *hinge(3, 4, 29), add(1, 1, 3))
        self.compared(0, 0, 0, *before, *hinge(3, 4, 29), add(1, 1, 3), *hinge(3, 4, 1), add(0, 0, 3),
                      line(3, 0, 15), add(1, 1, 3))

    def test_lines_that_differ(self):
        self.compared(0, 0, 0, line(0, 2, 3), line(1, -2, 3))
        self.compared(0, 0, 0, line(0, (1, 32767), 0), line(1, (1, 32766), 0))
        self.compared(0, 0, 1, line(0, 2, (1, MOST_OTHER)), line(1, 2, 0))

    def test_they_differ_left_of_the_first_break_only(self):
        self.compared(0, 1, 0, *tent_sum(0, 3, [1, 2]), *tent_sum(1, 3, [1, 2]), line(3, -1, -5), great(1, 1, 3))
        self.compared(0, 0, 1, *tent_sum(0, 3, [1, 2]), *tent_sum(1, 3, [1, 2]), line(3, 1, 5), less(1, 1, 3))

    def test_they_differ_between_two_breaks_only(self):
        self.compared(0, 1, 0, *tent_sum(0, 3, [0, 4]), *tent_sum(1, 3, [0, 4]), *tooth(5, 3, 1, 2, 3), add(1, 1, 5))
        self.compared(0, 0, 1, *tent_sum(0, 3, [0, 4]), *tent_sum(1, 3, [0, 4]), *tooth(5, 3, 0, 2, 4),
                      scale(5, 5, -1), add(1, 1, 5))

    def test_they_differ_right_of_the_last_break_only(self):
        self.compared(0, 1, 0, *tent_sum(0, 3, [1, 2]), *tent_sum(1, 3, [1, 2, 9]))
        self.compared(0, 0, 1, *tent_sum(0, 3, [1, 2]), *tent_sum(1, 3, [1, 2]), line(3, 1, 5), less(1, 1, 3))

    def test_they_differ_in_one_break_only(self):
        self.compared(0, 0, 1, *tent_sum(0, 3, [0, 1, 2]), *tent_sum(1, 3, [0, Fraction(3, 2), 2]))
        self.compared(0, 0, 1, *hinge(0, 3, 0), *hinge(1, 3, Fraction(1, 2)))

    def test_one_has_the_lines_of_the_other_and_more(self):
        self.compared(0, 0, 1, *hinge(0, 3, 2), line(1, 0, 0))
        self.compared(0, 0, 1, *hinge(0, 3, 2), line(1, 1, -2))

    def test_the_same_lines_the_other_way_round(self):
        self.compared(0, 1, 0, line(3, 1, 0), line(4, 2, 0), less(0, 3, 4), great(1, 3, 4))


class TestBelow(SameOrBelow):
    def test_parallel_lines(self):
        for s in (0, 3, -3, (1, MOST_SLOPE)):
            self.compared(0, 1, 0, line(0, s, 1), line(1, s, 2))
            self.compared(0, 0, 1, line(0, s, (1, MOST_OTHER)), line(1, s, (-1, MOST_OTHER)))
            self.compared(0, 0, 1, line(0, s, (1, MOST_OTHER - 1)), line(1, s, (1, MOST_OTHER)))

    def test_lines_that_cross(self):
        self.compared(0, 0, 0, line(0, 1, 0), line(1, 2, 0))
        self.compared(0, 0, 0, line(0, 1, 0), line(1, -1, 1000))
        self.compared(0, 0, 0, line(0, (1, MOST_SLOPE), -MOST_OTHER), line(1, (1, MOST_SLOPE - 1), MOST_OTHER))

    def test_a_crossing_that_would_not_fit_still_counts(self):
        self.compared(0, 0, 0, line(0, (1, MOST_SLOPE), MOST_OTHER), line(1, 0, 0))
        self.compared(0, 0, 0, line(0, MOST_SLOPE, (1, MOST_OTHER)), line(1, 0, 0))

    def test_functions_that_touch_at_a_place(self):
        self.compared(0, 0, 1, *size_of_x(0, 3), line(1, 0, 0))
        self.compared(0, 0, 1, *size_of_x(0, 3), line(1, (1, 2), 0))
        self.compared(0, 0, 1, *size_of_x(0, 3), scale(1, 0, -1))
        self.compared(0, 0, 1, *size_of_x(0, 3), line(3, 0, 1), add(0, 0, 3), scale(1, 0, -1), line(3, 0, 2),
                      add(1, 1, 3))

    def test_functions_that_touch_along_a_piece(self):
        self.compared(0, 0, 1, *size_of_x(0, 3), line(1, 1, 0))
        self.compared(0, 0, 1, *size_of_x(0, 3), line(1, -1, 0))
        self.compared(0, 1, 0, *tent_sum(0, 3, [1, 4]), *tooth(5, 3, 2, 3, 4), add(1, 0, 5))

    def test_they_would_cross_if_they_did_not_just_touch(self):
        small = Fraction(1, 10000)
        self.compared(0, 0, 0, *size_of_x(0, 3), line(1, 0, small))
        self.compared(0, 0, 0, *size_of_x(0, 3), line(1, Fraction(1, 2), small))
        self.compared(0, 0, 1, *size_of_x(0, 3), line(1, 0, -small))
        self.compared(0, 0, 0, *size_of_x(0, 3), line(1, 1 + small, 0))
        self.compared(0, 0, 0, *size_of_x(0, 3), line(1, -1 - small, 0))

    def test_above_only_left_of_the_first_break(self):
        # What is less than x + 1000 and than 7 is below 0 only left of -1000, and breaks at -993.
        least = [line(1, 1, 1000), line(3, 0, 7), less(1, 1, 3)]
        self.compared(0, 0, 0, line(0, 0, 0), *least)
        self.compared(0, 0, 0, *tent_sum(0, 3, [1, 2]), *least, add(1, 0, 1))
        self.compared(0, 0, 0, line(0, 0, -7), line(1, -1, -1000), line(3, 0, -8), great(1, 1, 3))

    def test_above_only_right_of_the_last_break(self):
        least = [line(1, -1, 1000), line(3, 0, 7), less(1, 1, 3)]
        self.compared(0, 0, 0, line(0, 0, 0), *least)
        self.compared(0, 0, 0, *tent_sum(0, 3, [1, 2]), *least, add(1, 0, 1))
        self.compared(0, 0, 0, line(0, 0, -7), line(1, 1, -1000), line(3, 0, -8), great(1, 1, 3))
        self.compared(0, 0, 0, *hinge(0, 3, 5), line(1, (9999, 10000), 0), line(3, 0, 1), great(1, 1, 3))

    def test_above_only_between_two_breaks(self):
        level = [line(1, 0, Fraction(1, 2))]
        self.compared(0, 0, 0, *tooth(0, 3, 0, 1, 2), *level)
        self.compared(0, 0, 0, *tooth(0, 3, 0, 1, 2), scale(0, 0, -1), line(1, 0, Fraction(-1, 2)))
        self.compared(0, 1, 0, *tooth(0, 3, 0, 1, 2), line(1, 0, 1))
        self.compared(0, 0, 1, *tooth(0, 3, 0, 1, 2), line(1, 0, 0))

    def test_above_only_at_a_break_of_the_other(self):
        # Function 1 dips below 0 at 5 alone, which is no break of function 0.
        dip = tooth(1, 3, 4, 5, 6) + [scale(1, 1, -1)]
        self.compared(0, 0, 1, line(0, 0, 0), *dip)
        self.compared(0, 0, 0, line(0, 0, Fraction(-1, 2)), *dip)
        self.compared(0, 1, 0, line(0, 0, -1), *dip)

    def test_many_breaks_between_one_another(self):
        even = tent_sum(0, 3, range(0, 30, 2))
        odd = tent_sum(1, 3, range(1, 30, 2))
        self.compared(0, 0, 1, *even, *odd)
        self.compared(0, 0, 0, *even, *odd, line(3, 0, 14), add(1, 1, 3))
        self.compared(0, 1, 0, *even, *odd, line(3, 0, 15), add(1, 1, 3))

    def test_the_sum_with_what_is_nowhere_below_0(self):
        for part in (hinge(5, 3, 100), size_of_x(5, 3), tooth(5, 3, -1, 0, 1)):
            self.compared(0, 1, 0, *rising(0, 3, PLACES), *part, add(1, 0, 5))

    def test_f_is_g(self):
        for before in ([line(7, 2, 1)], tent_sum(7, 3, PLACES), size_of_x(7, 3)):
            self.told([1], same(7, 7), *before)
            self.told([1], below(7, 7), *before)


class TestWrongPlaces(Case):
    def test_wrong_places(self):
        before = size_of_x(0, 1)
        for call in (same, below):
            for wrong in (2, 9, 15, 16, 17, 255, 2 ** 31, 2 ** 32 - 1):
                self.refused(-1, call(wrong, 0), *before)
                self.refused(-1, call(0, wrong), *before)
                self.refused(-1, call(wrong, wrong), *before)
                self.refused(-1, call(wrong, 12), *before)

    def test_the_last_place(self):
        for call in (same, below):
            self.told([1], call(15, 0), line(0, 1, 1), line(15, 1, 1))
            self.told([0], call(15, 0), line(0, 1, 1), line(15, 1, 2))

    def test_nothing_is_kept_at_the_beginning(self):
        kept = Object()
        for f in range(17):
            self.assertEqual(kept.call(same(f, f)), [-1])
            self.assertEqual(kept.call(below(f, f)), [-1])

    def test_the_answers_are_whole_numbers(self):
        kept = Object(line(0, 1, 1), line(1, 1, 2))
        for call in (same(0, 0), same(0, 1), below(0, 1), below(1, 0)):
            for number in kept.call(call):
                self.assertIs(type(number), int)
