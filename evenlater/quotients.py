"""Quotients, exact and in lowest terms."""

from evenlater.corenumbers import lowest
from evenlater.kinds import are_quotients, is_integer, is_quotient
from evenlater.refusals import need


def quotient_of(top, bottom):
    """The quotient for top / bottom."""
    need(is_integer(top), "top")
    need(is_integer(bottom) and bottom != 0, "bottom")
    return lowest(top, bottom)


def _need_quotients(one, other):
    need(is_quotient(one), "one")
    need(is_quotient(other), "other")


def plus(one, other):
    """The sum."""
    _need_quotients(one, other)
    return lowest(one[0] * other[1] + other[0] * one[1], one[1] * other[1])


def minus(one, other):
    """One less other."""
    _need_quotients(one, other)
    return lowest(one[0] * other[1] - other[0] * one[1], one[1] * other[1])


def times(one, other):
    """The product."""
    _need_quotients(one, other)
    return lowest(one[0] * other[0], one[1] * other[1])


def over(one, other):
    """One divided by other, which is not zero."""
    _need_quotients(one, other)
    need(other[0] != 0, "other")
    return lowest(one[0] * other[1], one[1] * other[0])


def compare(one, other):
    """-1, 0 or 1, as one is less than, equal to or greater than other."""
    _need_quotients(one, other)
    gap = one[0] * other[1] - other[0] * one[1]
    if gap == 0:
        return 0
    return 1 if gap > 0 else -1


def sum_up(quotients):
    """The sum of a tuple of quotients, zero for ()."""
    need(are_quotients(quotients), "quotients")
    total = (0, 1)
    for value in quotients:
        total = plus(total, value)
    return total
