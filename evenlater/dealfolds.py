"""Deals folded by a kept part, and lifted back."""

from evenlater.coreclocks import clock_folded, every_move, move_folded, number_in, size_in, size_of_part
from evenlater.corenumbers import lowest_row
from evenlater.dealkinds import is_deal
from evenlater.kinds import is_kept_part
from evenlater.refusals import need


def _folded_numbers(clock, part):
    """For each move, by number, the number of the folded move."""
    folded = clock_folded(clock, part)
    return [number_in(folded, move_folded(clock, part, move)) for move in every_move(clock)]


def folded_deal(clock, part, deal):
    """The deal of the folded clock in which each move has the weights of all moves that fold to it, added."""
    need(is_kept_part(clock, part), "part")
    need(is_deal(clock, deal), "deal")
    weights = [0] * size_in(clock_folded(clock, part))
    for number, weight in zip(_folded_numbers(clock, part), deal[1]):
        weights[number] = weights[number] + weight
    return lowest_row(deal[0], weights)


def lifted_deal(clock, part, deal):
    """The deal that shares each weight of a deal of the folded clock evenly among the moves that fold to its move."""
    need(is_kept_part(clock, part), "part")
    need(is_deal(clock_folded(clock, part), deal), "deal")
    weights = [deal[1][number] for number in _folded_numbers(clock, part)]
    return lowest_row(deal[0] * size_of_part(part), weights)
