"""The nearest deals among those that a deal makes even."""

from evenlater.dealing import dealt
from evenlater.dealkinds import need_deals
from evenlater.dealsums import taken
from evenlater.eveners import evener_right
from evenlater.weighing import square_sum


def nearest_even(clock, one, other):
    """The nearest deal to other of all deals C with one * C even."""
    need_deals(clock, one, other)
    return dealt(clock, evener_right(clock, one), other)


def gap_even(clock, one, other):
    """The sum of the squares of the weights of other less the nearest one."""
    return square_sum(clock, taken(clock, other, nearest_even(clock, one, other)))
