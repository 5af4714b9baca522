"""Whether powers of a deal are even as far as the totals of classes tell."""

from evenlater.classes import classes_of
from evenlater.coreclocks import size_in
from evenlater.dealing import dealt_again
from evenlater.dealkinds import is_deal
from evenlater.quotients import quotient_of, times
from evenlater.refusals import need
from evenlater.sizes import last_edge
from evenlater.smoothing import class_totals
from evenlater.weighing import total_of


def even_in_classes(clock, deal, many):
    """Whether, in the power to many, each class total is the total times the size of the class by n."""
    power = dealt_again(clock, deal, many)
    total, shares = total_of(clock, power), [quotient_of(len(some), size_in(clock)) for some in classes_of(clock)]
    return class_totals(clock, power) == tuple([times(total, share) for share in shares])


def first_uneven(clock, deal):
    """The least number from 1 to the edge of the beats whose power is not even in classes, or None."""
    need(is_deal(clock, deal), "deal")
    for many in range(1, last_edge(clock) + 1):
        if not even_in_classes(clock, deal, many):
            return many
    return None
