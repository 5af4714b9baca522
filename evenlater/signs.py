"""Whether a deal is even, an own mirror, its own square, alike in each class, and can be exchanged."""

from evenlater.coreclocks import every_class, number_in
from evenlater.dealing import dealt
from evenlater.dealkinds import is_deal
from evenlater.mirrors import mirrored
from evenlater.refusals import need


def _are_equal(weights):
    return all([weight == weights[0] for weight in weights])


def is_even(clock, deal):
    """Whether all weights are equal."""
    need(is_deal(clock, deal), "deal")
    return _are_equal(deal[1])


def is_own_mirror(clock, deal):
    """Whether the mirror is the deal itself."""
    return mirrored(clock, deal) == deal


def is_own_square(clock, deal):
    """Whether the deal, dealt twice, is itself."""
    need(is_deal(clock, deal), "deal")
    return dealt(clock, deal, deal) == deal


def is_alike(clock, deal):
    """Whether the weights are equal within each class."""
    need(is_deal(clock, deal), "deal")
    rows = [[deal[1][number_in(clock, move)] for move in some] for some in every_class(clock)]
    return all([_are_equal(row) for row in rows])


def can_exchange(clock, one, other):
    """Whether one then other is other then one."""
    return dealt(clock, one, other) == dealt(clock, other, one)
