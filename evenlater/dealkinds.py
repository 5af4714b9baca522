"""Whether any value is a deal, or a plain one; and how two deals are asked for."""

from evenlater.coreclocks import size_in
from evenlater.corenumbers import common_in
from evenlater.kinds import are_integers, is_integer, is_pair
from evenlater.refusals import need


def is_weights(clock, thing):
    """Whether thing is a tuple of n integers."""
    return are_integers(thing) and len(thing) == size_in(clock)


def is_deal(clock, thing):
    """Whether thing is a deal of the clock, in lowest terms."""
    if not (is_pair(thing) and is_integer(thing[0]) and is_weights(clock, thing[1])):
        return False
    return thing[0] >= 1 and common_in(thing[0], thing[1]) == 1


def is_plain(clock, thing):
    """Whether thing is a deal with no weight below 0 and some above."""
    return is_deal(clock, thing) and min(thing[1]) >= 0 and max(thing[1]) > 0


def is_zero(deal):
    """Whether a deal has no weight but 0."""
    return all([weight == 0 for weight in deal[1]])


def is_deal_row(clock, thing):
    """Whether thing is a tuple of deals of the clock, perhaps ()."""
    return isinstance(thing, tuple) and all([is_deal(clock, value) for value in thing])


def need_deals(clock, one, other):
    """Refuse one, then other, unless it is a deal of the clock."""
    need(is_deal(clock, one), "one")
    need(is_deal(clock, other), "other")
