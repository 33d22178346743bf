from fractions import Fraction

from tests.helper import (Case, MOST_OTHER, MOST_SLOPE, MOST_VALUE, Object, falling, great, less, line, rising,
                          size_of_x, tent_sum, value)

# 0 left of -1, x + 1 up to 2, 3 up to 7/2, and falling right of it.
BENT = [line(0, 1, 1), line(1, 0, 0), great(0, 0, 1), line(1, 0, 3), less(0, 0, 1), line(1, -2, 10), less(0, 0, 1)]

# The largest number below 2147483647 that, like it, is prime.
PRIME = 2147483629

# A line s x + c and an x with the value told: the numerator over 2147483647 * 2147483629, in lowest terms.
BIG_TOPS = (
    (MOST_VALUE, (8478, 1), (2028179023, PRIME), (267373, MOST_OTHER)),
    (MOST_VALUE + 1, (16956, 1), (-238609252, PRIME), (267373, MOST_OTHER)),
    (MOST_VALUE + 2, (12011, 1), (-357913898, PRIME), (387385, MOST_OTHER)),
)

# Denominators with no common divisor: 2^63 + 2 is the first beyond 2^63 - 1 that a value can have.
BIG_BOTTOMS = (
    (MOST_VALUE, 3577, 218934409, 11777599),
    (MOST_VALUE + 3, 10, 429509837, 2147418113),
)


class TestValue(Case):
    def test_a_line(self):
        self.told([11, 1], value(0, 4), line(0, 2, 3))
        self.told([-5, 1], value(0, -4), line(0, 2, 3))
        self.told([11, 15], value(0, (1, 5)), line(0, (2, 3), (3, 5)))

    def test_left_of_the_first_break(self):
        for x in (-MOST_OTHER, -5, (-1000001, 1000000)):
            self.told([0, 1], value(0, x), *BENT)

    def test_at_each_break(self):
        self.told([0, 1], value(0, -1), *BENT)
        self.told([3, 1], value(0, 2), *BENT)
        self.told([3, 1], value(0, (7, 2)), *BENT)

    def test_between_breaks(self):
        self.told([1, 2], value(0, (-1, 2)), *BENT)
        self.told([1, 1], value(0, 0), *BENT)
        self.told([2999999, 1000000], value(0, (1999999, 1000000)), *BENT)
        self.told([3, 1], value(0, (2000001, 1000000)), *BENT)
        self.told([3, 1], value(0, 3), *BENT)

    def test_right_of_the_last_break(self):
        self.told([299, 100], value(0, (701, 200)), *BENT)
        self.told([-10, 1], value(0, 10), *BENT)
        self.told([10 - 2 * MOST_OTHER, 1], value(0, MOST_OTHER), *BENT)

    def test_at_every_kind_of_place_of_32_lines(self):
        for before in (rising(0, 3, range(-15, 16)), falling(0, 3, [Fraction(k, 7) for k in range(-15, 16)])):
            kept = Object(*before)
            pieces = kept.form(0)
            self.assertEqual(len(pieces), 32)
            breaks = [piece[0] for piece in pieces[1:]]
            for k, x in enumerate(breaks):
                near = Fraction(1, 100)
                self.assertEqual(kept.value(0, x), pieces[k][1] * x + pieces[k][2])
                self.assertEqual(kept.value(0, x), pieces[k + 1][1] * x + pieces[k + 1][2])
                self.assertEqual(kept.value(0, x - near), pieces[k][1] * (x - near) + pieces[k][2])
                self.assertEqual(kept.value(0, x + near), pieces[k + 1][1] * (x + near) + pieces[k + 1][2])

    def test_x_need_not_be_in_lowest_terms(self):
        self.told([11, 1], value(0, (400, 100)), line(0, 2, 3))
        self.told([3, 1], value(0, (14, 4)), *BENT)
        self.told([1, 2], value(0, (-1000, 2000)), *BENT)
        self.told([3, 1], value(0, (0, MOST_OTHER)), line(0, 2, 3))

    def test_the_answer_is_in_lowest_terms(self):
        self.told([1, 1], value(0, (3, 2)), line(0, (1, 2), (1, 4)))
        self.told([-1, 3], value(0, (1, 6)), line(0, -4, (1, 3)))
        self.told([1, 1], value(0, (32767, 30000)), line(0, (30000, 32767), 0))

    def test_a_value_of_0(self):
        self.told([0, 1], value(0, (3, 2)), line(0, 2, -3))
        self.told([0, 1], value(0, 0), line(0, 7, 0))
        self.told([0, 1], value(0, (5, 7)), line(0, 0, 0))
        self.told([0, 1], value(0, 5), *BENT)
        self.told([0, 1], value(0, (0, 5)), *size_of_x(0, 1))

    def test_largest_numbers_of_x(self):
        self.told([MOST_OTHER, 1], value(0, MOST_OTHER), line(0, 1, 0))
        self.told([-MOST_OTHER, 1], value(0, -MOST_OTHER), line(0, 1, 0))
        self.told([1, MOST_OTHER], value(0, (1, MOST_OTHER)), line(0, 1, 0))
        self.told([1, 1], value(0, (MOST_OTHER, MOST_OTHER)), line(0, 1, 0))
        self.told([-1, 1], value(0, (-MOST_OTHER, MOST_OTHER)), line(0, 1, 0))
        self.told([MOST_SLOPE * MOST_OTHER + MOST_OTHER, 1], value(0, MOST_OTHER), line(0, MOST_SLOPE, MOST_OTHER))

    def test_numbers_of_x_just_beyond(self):
        beyond = MOST_OTHER + 1
        for before in ([line(0, 1, 0)], [line(0, 0, 0)], BENT):
            for x in ((beyond, 1), (-beyond, 1), (1, beyond), (beyond, beyond), (0, beyond), (-beyond, beyond)):
                self.refused(-1, value(0, x), *before)

    def test_denominators_of_0_and_below(self):
        for bottom in (0, -1, -2, -MOST_OTHER, -MOST_OTHER - 1, -(2 ** 63)):
            for top in (0, 1, -1, bottom):
                self.refused(-1, value(0, (top, bottom)), *BENT)

    def test_ends_of_what_may_be_handed_in(self):
        for number in (-(2 ** 63), 2 ** 63 - 1):
            for x in ((number, 1), (1, number), (number, number), (0, number)):
                self.refused(-1, value(0, x), line(0, 1, 0))

    def test_numerators_at_the_bound_and_beyond(self):
        bottom = MOST_OTHER * PRIME
        for top, s, c, x in BIG_TOPS:
            self.assertEqual(Fraction(*s) * Fraction(*x) + Fraction(*c), Fraction(top, bottom))
            minus_c, minus_x = (-c[0], c[1]), (-x[0], x[1])
            if top == MOST_VALUE:
                self.told([top, bottom], value(0, x), line(0, s, c))
                self.told([-top, bottom], value(0, minus_x), line(0, s, minus_c))
            else:
                self.refused(-2, value(0, x), line(0, s, c))
                self.refused(-2, value(0, minus_x), line(0, s, minus_c))

    def test_denominators_at_the_bound_and_beyond(self):
        for bottom, sd, cd, xd in BIG_BOTTOMS:
            for sign in (1, -1):
                top = sign * (sd * xd + cd)
                self.assertEqual(Fraction(sign, sd * xd) + Fraction(sign, cd), Fraction(top, bottom))
                if bottom == MOST_VALUE:
                    self.told([top, bottom], value(0, (1, xd)), line(0, (sign, sd), (sign, cd)))
                else:
                    self.refused(-2, value(0, (1, xd)), line(0, (sign, sd), (sign, cd)))

    def test_far_beyond(self):
        self.refused(-2, value(0, (1, MOST_OTHER)), line(0, (1, MOST_SLOPE), (1, PRIME)))
        self.refused(-2, value(0, (MOST_OTHER - 1, MOST_OTHER)), line(0, MOST_SLOPE, (1, PRIME)))

    def test_only_lowest_terms_matter(self):
        most = MOST_OTHER
        self.told([2, most], value(0, (1, most)), line(0, 1, (1, most)))
        self.told([MOST_SLOPE + 1, most], value(0, (1, most)), line(0, MOST_SLOPE, (1, most)))
        self.told([0, 1], value(0, (1, 65538)), line(0, (1, 32766), (-1, 32766 * 65538)))
        self.told([1, most - 1], value(0, (MOST_SLOPE, most - 1)), line(0, (1, MOST_SLOPE), 0))

    def test_only_the_line_at_x_matters(self):
        # Left of 0 the value at 1 / 2147483647 has a denominator too large; right of 0 it has not.
        before = [line(0, (1, MOST_SLOPE), (1, PRIME)), line(1, 1, (1, PRIME)), great(0, 0, 1)]
        self.refused(-2, value(0, (-1, MOST_OTHER)), *before)
        self.told([MOST_OTHER + PRIME, MOST_OTHER * PRIME], value(0, (1, MOST_OTHER)), *before)

    def test_wrong_places(self):
        for wrong in (1, 9, 15, 16, 17, 2 ** 31, 2 ** 32 - 1):
            self.refused(-1, value(wrong, 3), line(0, 2, 3))
            self.refused(-1, value(wrong, (3, 0)), line(0, 2, 3))

    def test_wrong_inputs_come_before_a_value_too_large(self):
        before = [line(0, (1, MOST_SLOPE), (1, PRIME))]
        self.refused(-2, value(0, (1, MOST_OTHER)), *before)
        self.refused(-1, value(1, (1, MOST_OTHER)), *before)
        self.refused(-1, value(0, (1, MOST_OTHER + 2)), *before)

    def test_nothing_is_kept_at_the_beginning(self):
        kept = Object()
        for f in range(17):
            self.assertEqual(kept.call(value(f, 0)), [-1])

    def test_the_last_place(self):
        self.told([7, 1], value(15, 7), *tent_sum(0, 3, [1]), line(15, 1, 0))
