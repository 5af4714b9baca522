"""The weights of a deal, its total, its moves."""

from evenlater.coreclocks import every_move, number_in
from evenlater.corenumbers import lowest
from evenlater.dealkinds import is_deal
from evenlater.kinds import is_move
from evenlater.refusals import need


def weight_at(clock, deal, move):
    """The weight at the move, a quotient."""
    need(is_deal(clock, deal), "deal")
    need(is_move(clock, move), "move")
    return lowest(deal[1][number_in(clock, move)], deal[0])


def total_of(clock, deal):
    """The sum of all weights, a quotient."""
    need(is_deal(clock, deal), "deal")
    return lowest(sum(deal[1]), deal[0])


def moves_of(clock, deal):
    """The set of all moves whose weight is not 0."""
    need(is_deal(clock, deal), "deal")
    return tuple(sorted([move for move, weight in zip(every_move(clock), deal[1]) if weight != 0]))


def square_sum(clock, deal):
    """The sum of the squares of all weights, a quotient."""
    need(is_deal(clock, deal), "deal")
    return lowest(sum([weight * weight for weight in deal[1]]), deal[0] * deal[0])
