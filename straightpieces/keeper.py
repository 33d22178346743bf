"""What is kept at the 16 places, and the calls on it."""

from straightpieces.asking import is_nowhere_above, is_same, numbers_of_form, value_at
from straightpieces.forms import MOST_ELSEWHERE, MOST_IN_SLOPE
from straightpieces.making import composition, greater, inverse, lesser, multiple, single_line, total
from straightpieces.ratios import ratio
from straightpieces.refusals import DoesNotFit, NotOneToOne, WrongInput

LAST_PLACE = 15

LINE = 0
ADD = 1
SCALE = 2
GREAT = 3
LESS = 4
COMPOSE = 5
INVERSE = 6
VALUE = 7
SAME = 8
BELOW = 9
FORM = 10


# The bound is on the numbers as they are handed over, ahead of lowest terms.
def fraction_handed_over(top, bottom, most):
    if bottom < 1 or bottom > most or abs(top) > most:
        raise WrongInput()
    return ratio(top, bottom)


def slope_handed_over(top, bottom):
    return fraction_handed_over(top, bottom, MOST_IN_SLOPE)


def other_handed_over(top, bottom):
    return fraction_handed_over(top, bottom, MOST_ELSEWHERE)


def made_of_two(number, f, g):
    if number == ADD:
        return total(f, g)
    if number == GREAT:
        return greater(f, g)
    if number == LESS:
        return lesser(f, g)
    return composition(f, g)


def told_of_two(number, f, g):
    is_so = is_same(f, g) if number == SAME else is_nowhere_above(f, g)
    return 1 if is_so else 0


class Keeper:
    def __init__(self):
        self.kept = {}

    def function_at(self, place):
        if place not in self.kept:
            raise WrongInput()
        return self.kept[place]

    def made(self, number, numbers):
        if number == LINE:
            slope = slope_handed_over(numbers[0], numbers[1])
            return single_line(slope, other_handed_over(numbers[2], numbers[3]))
        f = self.function_at(numbers[0])
        if number == SCALE:
            return multiple(f, slope_handed_over(numbers[1], numbers[2]))
        if number == INVERSE:
            return inverse(f)
        return made_of_two(number, f, self.function_at(numbers[1]))

    # What is made is whole before it is kept: so a refusal leaves all as it was,
    # and the old function counts where the new one takes its place.
    def make(self, number, place, numbers):
        if place > LAST_PLACE:
            raise WrongInput()
        self.kept[place] = self.made(number, numbers)

    def told(self, number, numbers):
        f = self.function_at(numbers[0])
        if number == FORM:
            return numbers_of_form(f)
        if number == VALUE:
            return list(value_at(f, other_handed_over(numbers[1], numbers[2])))
        return [told_of_two(number, f, self.function_at(numbers[1]))]

    def done(self, number, numbers):
        if number > INVERSE:
            return self.told(number, numbers)
        self.make(number, numbers[0], numbers[1:])
        return []

    def answer(self, number, numbers):
        try:
            return [0] + self.done(number, numbers)
        except WrongInput:
            return [-1]
        except NotOneToOne:
            return [-5]
        except DoesNotFit:
            return [-2]
