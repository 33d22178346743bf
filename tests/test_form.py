from fractions import Fraction

from tests.helper import (Case, MOST_OTHER, MOST_SLOPE, Object, add, compose, form, great, hinge, inverse, less, line,
                          scale, size_of_x, tent_sum)


class TestForm(Case):
    def form_made(self, numbers, call, *before):
        """Behind the calls the form of what the call makes is these numbers."""
        self.made(call, *before)
        self.told(numbers, form(call[1]), *before, call)

    def test_one_line(self):
        self.told([2, 1, 3, 1], form(0), line(0, 2, 3))

    def test_two_lines(self):
        self.told([-1, 1, 0, 1, 0, 1, 1, 1, 0, 1], form(0), *size_of_x(0, 1))

    def test_32_lines(self):
        numbers = [0, 1, 0, 1]
        for k in range(31):
            numbers += [k - 20, 1, k + 1, 1, -sum(range(-20, k - 19)), 1]
        kept = self.told(numbers, form(0), *tent_sum(0, 3, range(-20, 11)))
        self.assertEqual(len(kept.call(form(0))), 1 + 4 + 6 * 31)

    def test_each_fraction_is_in_lowest_terms(self):
        self.told([3, 2, -2, 3], form(0), line(0, (30, 20), (-8, 12)))
        numbers = [-1, 1, 1, 3, 2, 9, 1, 2, 0, 1]
        self.told(numbers, form(0), line(0, (-4, 4), (3, 9)), line(1, (5, 10), (0, 7)), great(0, 0, 1))

    def test_numerators_below_0(self):
        self.told([-2, 3, -5, 7], form(0), line(0, (-2, 3), (-5, 7)))
        numbers = [0, 1, 0, 1, -5, 7, -1, 1, -5, 7]
        self.told(numbers, form(0), *hinge(0, 1, Fraction(-5, 7)), scale(0, 0, -1))

    def test_0_is_0_over_1(self):
        self.told([0, 1, 0, 1], form(0), line(0, (0, 9), (0, MOST_OTHER)))
        self.told([0, 1, 0, 1, 0, 1, 1, 1, 0, 1], form(0), *hinge(0, 1, 0))
        self.told([0, 1, 0, 1], form(0), line(0, 2, 3), scale(1, 0, -1), add(0, 0, 1))

    def test_largest_numbers(self):
        self.told([MOST_SLOPE, 1, -MOST_OTHER, 1], form(0), line(0, MOST_SLOPE, -MOST_OTHER))
        self.told([-1, MOST_SLOPE, 1, MOST_OTHER], form(0), line(0, (-1, MOST_SLOPE), (1, MOST_OTHER)))
        numbers = [0, 1, 0, 1, MOST_OTHER, 1, 1, 1, -MOST_OTHER, 1]
        self.told(numbers, form(0), *hinge(0, 1, MOST_OTHER))

    def test_what_line_makes(self):
        self.form_made([1, 2, -3, 1], line(0, (2, 4), (-9, 3)))
        self.form_made([1, 2, -3, 1], line(0, (2, 4), (-9, 3)), *size_of_x(0, 1))

    def test_what_add_makes(self):
        numbers = [-1, 1, -1, 1, 0, 1, 1, 1, -1, 1, 1, 1, 2, 1, -2, 1]
        self.form_made(numbers, add(4, 0, 2), *size_of_x(0, 1), *hinge(2, 3, 1), line(3, 0, -1), add(2, 2, 3))
        self.form_made([0, 1, 0, 1], add(4, 0, 2), *size_of_x(0, 1), scale(2, 0, -1))
        self.form_made([0, 1, 0, 1, 1, 1, 1, 1, -1, 1], add(4, 0, 2), *tent_sum(0, 3, [0, 1]), *hinge(2, 3, 0),
                       scale(2, 2, -1))

    def test_what_scale_makes(self):
        self.form_made([2, 3, 0, 1, 0, 1, -2, 3, 0, 1], scale(4, 0, (-4, 6)), *size_of_x(0, 1))
        self.form_made([0, 1, 0, 1], scale(4, 0, (0, 6)), *tent_sum(0, 3, range(31)))

    def test_what_great_makes(self):
        numbers = [-1, 1, 0, 1, -2, 1, 0, 1, 2, 1, 2, 1, 1, 1, 0, 1]
        self.form_made(numbers, great(4, 0, 2), *size_of_x(0, 1), line(2, 0, 2))
        self.form_made([0, 1, 5, 1], great(4, 0, 2), *size_of_x(0, 1), scale(0, 0, -1), line(2, 0, 5))

    def test_what_less_makes(self):
        numbers = [0, 1, 2, 1, -2, 1, -1, 1, 0, 1, 0, 1, 1, 1, 0, 1, 2, 1, 0, 1, 2, 1]
        self.form_made(numbers, less(4, 0, 2), *size_of_x(0, 1), line(2, 0, 2))
        self.form_made([0, 1, -5, 1], less(4, 0, 2), *size_of_x(0, 1), line(2, 0, -5))

    def test_what_compose_makes(self):
        numbers = [-1, 1, -3, 1, -3, 1, 1, 1, 3, 1, 0, 1, -1, 1, 3, 1, 3, 1, 1, 1, -3, 1]
        self.form_made(numbers, compose(4, 0, 2), *size_of_x(0, 1), *size_of_x(2, 3), line(3, 0, -3), add(2, 2, 3))
        self.form_made([1, 1, 0, 1], compose(4, 0, 2), line(0, 1, 0), line(1, 2, 0), great(0, 0, 1), line(2, 1, 0),
                       line(3, (1, 2), 0), less(2, 2, 3))

    def test_what_inverse_makes(self):
        bent = [line(0, 1, 0), line(1, 2, -3), great(0, 0, 1)]
        self.form_made([1, 1, 0, 1, 3, 1, 1, 2, 3, 2], inverse(4, 0), *bent)
        self.form_made([-1, 2, 3, 2, -3, 1, -1, 1, 0, 1], inverse(4, 0), *bent, scale(0, 0, -1))
        self.form_made([3, 2, 6, 1], inverse(0, 0), line(0, (2, 3), -4))

    def test_every_place(self):
        before = [line(h, h, -h) for h in range(16)]
        for h in range(16):
            self.told([h, 1, -h, 1], form(h), *before)

    def test_wrong_places(self):
        for wrong in (2, 9, 15, 16, 17, 255, 2 ** 31, 2 ** 32 - 1):
            self.refused(-1, form(wrong), *size_of_x(0, 1))

    def test_nothing_is_kept_at_the_beginning(self):
        kept = Object()
        for f in (*range(17), 2 ** 32 - 1):
            self.assertEqual(kept.call(form(f)), [-1])
