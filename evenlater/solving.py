"""Deals that, dealt ahead of one deal, give another one; callers have checked the values."""

from evenlater.coreclocks import every_move
from evenlater.corenumbers import lowest_row
from evenlater.dealing import dealt
from evenlater.dealmaking import single_deal
from evenlater.ranking import combined


def ahead_of(clock, one, other):
    """A deal X with X * one = other, or None if there is none."""
    rows = [dealt(clock, single_deal(clock, move, (1, 1)), one)[1] for move in every_move(clock)]
    found = combined(tuple(rows), other[1])
    if found is None:
        return None
    bottom, tops = found
    return lowest_row(bottom * other[0], [top * one[0] for top in tops])
