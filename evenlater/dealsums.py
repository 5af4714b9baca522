"""Sums of deals, and deals times quotients."""

from evenlater.corenumbers import lowest_row
from evenlater.dealkinds import is_deal, need_deals
from evenlater.dealmaking import zero_deal
from evenlater.kinds import is_quotient
from evenlater.refusals import need


def added(clock, one, other):
    """The sum, weight by weight."""
    need_deals(clock, one, other)
    weights = [left * other[0] + right * one[0] for left, right in zip(one[1], other[1])]
    return lowest_row(one[0] * other[0], weights)


def taken(clock, one, other):
    """One less other, weight by weight."""
    need_deals(clock, one, other)
    weights = [left * other[0] - right * one[0] for left, right in zip(one[1], other[1])]
    return lowest_row(one[0] * other[0], weights)


def added_row(clock, deals):
    """The sum of a row of deals, the zero deal for none."""
    result = zero_deal(clock)
    for deal in deals:
        result = added(clock, result, deal)
    return result


def scaled(clock, deal, quotient):
    """The deal with each weight times quotient."""
    need(is_deal(clock, deal), "deal")
    need(is_quotient(quotient), "quotient")
    return lowest_row(deal[0] * quotient[1], [weight * quotient[0] for weight in deal[1]])
