"""What is kept at the 16 places, and the calls on it."""

from straightpieces.forms import MOST_ELSEWHERE, MOST_IN_SLOPE
from straightpieces.making import composition, greater, lesser, multiple, single_line, total
from straightpieces.ratios import ratio
from straightpieces.refusals import DoesNotFit, WrongInput

LAST_PLACE = 15

LINE = 0
ADD = 1
SCALE = 2
GREAT = 3
LESS = 4
COMPOSE = 5


# The bound is on the numbers as they are handed over, ahead of lowest terms.
def fraction_handed_over(top, bottom, most):
    if bottom < 1 or bottom > most or abs(top) > most:
        raise WrongInput()
    return ratio(top, bottom)


def slope_handed_over(top, bottom):
    return fraction_handed_over(top, bottom, MOST_IN_SLOPE)


def constant_handed_over(top, bottom):
    return fraction_handed_over(top, bottom, MOST_ELSEWHERE)


def made_of_two(number, f, g):
    if number == ADD:
        return total(f, g)
    if number == GREAT:
        return greater(f, g)
    if number == LESS:
        return lesser(f, g)
    return composition(f, g)


class Keeper:
    def __init__(self):
        self.kept = {}

    def function_at(self, place):
        if place not in self.kept:
            raise WrongInput()
        return self.kept[place]

    def made(self, number, numbers):
        if number == LINE:
            slope = slope_handed_over(numbers[0], numbers[1])
            return single_line(slope, constant_handed_over(numbers[2], numbers[3]))
        f = self.function_at(numbers[0])
        if number == SCALE:
            return multiple(f, slope_handed_over(numbers[1], numbers[2]))
        return made_of_two(number, f, self.function_at(numbers[1]))

    # What is made is whole before it is kept: so a refusal leaves all as it was,
    # and the old function counts where the new one takes its place.
    def make(self, number, place, numbers):
        if place > LAST_PLACE:
            raise WrongInput()
        self.kept[place] = self.made(number, numbers)

    def answer(self, number, numbers):
        try:
            self.make(number, numbers[0], numbers[1:])
        except WrongInput:
            return [-1]
        except DoesNotFit:
            return [-2]
        return [0]
