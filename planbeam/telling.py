"""What a finished weighing says."""

from planbeam.number_text import read_number
from planbeam.ratio import Ratio

NUMBER = 0
REACH = 1
SQUARE = 2


class Basis:
    """What a telling rests on: a division's worth and its bound, the nearness of readings and their square."""

    def __init__(self, worth, bound, nearness, square):
        self.worth = worth
        self.bound = bound
        self.nearness = nearness
        self.square = square


class Measured:
    """A number, and the reach and the square of its form.

    No two values that are put together here share a source: so reach and square are enough of a form.
    """

    def __init__(self, number, reach, square):
        self.number = number
        self.reach = reach
        self.square = square


def read_unsigned(text):
    """The ratio that a number handed over tells, None if the text is no such number or it is below 0."""
    ratio = read_number(text)
    if ratio is None or ratio.top < 0:
        return None
    return ratio


def read_basis(worth_text, bound_text, nearness_text, square_text):
    """The basis that these texts tell, None if one of them may not stand in it."""
    worth = read_number(worth_text)
    bound = read_unsigned(bound_text)
    nearness = read_unsigned(nearness_text)
    square = read_unsigned(square_text)
    if worth is None or bound is None or nearness is None or square is None:
        return None
    return Basis(worth, bound, nearness, square)


def bound_square(bound):
    """The square of a source of which only the bound is known."""
    return bound.times(bound).times(Ratio(1, 3))


def counted_divisions(plan, readings, basis):
    """The readings, each as much as it counts and each with an error of its own."""
    tops = plan.tops
    number = Ratio(sum([tops[step] * readings[step] for step in range(len(tops))]), plan.bottom)
    sizes = Ratio(sum([abs(top) for top in tops]), plan.bottom)
    squares = Ratio(sum([top * top for top in tops]), plan.bottom * plan.bottom)
    return Measured(number, sizes.times(basis.nearness), squares.times(basis.square))


def division_worth(basis):
    """What a division is worth."""
    return Measured(basis.worth, basis.bound, bound_square(basis.bound))


def told_reach(first, second):
    """The reach of the product of two measured values."""
    of_first = first.reach.times(second.number.size())
    of_second = second.reach.times(first.number.size())
    of_both = first.reach.times(second.reach)
    return of_first.plus(of_second).plus(of_both)


def told_square(first, second):
    """The square of the product of two measured values."""
    of_first = first.square.times(second.number).times(second.number)
    of_second = second.square.times(first.number).times(first.number)
    of_both = bound_square(first.reach.times(second.reach))
    return of_first.plus(of_second).plus(of_both)


def told(which, plan, readings, basis):
    """The number, the reach or the square of what is told."""
    counted = counted_divisions(plan, readings, basis)
    worth = division_worth(basis)
    if which == NUMBER:
        return counted.number.times(worth.number)
    if which == REACH:
        return told_reach(counted, worth)
    return told_square(counted, worth)
