"""The nearest deals among those made of a deal from a side."""

from evenlater.dealing import dealt
from evenlater.dealkinds import need_deals
from evenlater.dealsums import taken
from evenlater.sides import left_side, right_side
from evenlater.weighing import square_sum


def nearest_left(clock, one, other):
    """The nearest deal to other among those made of one from the left."""
    need_deals(clock, one, other)
    return dealt(clock, other, left_side(clock, one))


def nearest_right(clock, one, other):
    """The nearest deal to other among those made of one from the right."""
    need_deals(clock, one, other)
    return dealt(clock, right_side(clock, one), other)


def gap_left(clock, one, other):
    """The sum of the squares of the weights of other less the nearest one from the left."""
    return square_sum(clock, taken(clock, other, nearest_left(clock, one, other)))


def gap_right(clock, one, other):
    """The sum of the squares of the weights of other less the nearest one from the right."""
    return square_sum(clock, taken(clock, other, nearest_right(clock, one, other)))
