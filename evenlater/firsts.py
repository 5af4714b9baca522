"""The chances that the moves drawn are a move after many deals, and not after fewer."""

from evenlater.coreclocks import number_in
from evenlater.corenumbers import lowest_row
from evenlater.dealing import dealt
from evenlater.dealkinds import is_plain
from evenlater.dealmaking import idle_deal
from evenlater.kinds import is_move, is_number
from evenlater.quotients import quotient_of
from evenlater.refusals import need


def _without_idle(deal):
    return lowest_row(deal[0], [0] + list(deal[1][1:]))


def first_row(clock, deal, move, many):
    """first_at for 0, 1, .., many."""
    need(is_plain(clock, deal), "deal")
    need(is_move(clock, move), "move")
    need(is_number(many), "many")
    # a move comes for the first time after k + 1 deals if, after the first of them, what is left comes so after k
    chances, number = lowest_row(sum(deal[1]), deal[1]), number_in(clock, move)
    firsts = idle_deal(clock)
    row = [quotient_of(firsts[1][number], firsts[0])]
    for _ in range(many):
        firsts = _without_idle(dealt(clock, chances, firsts))
        row = [*row, quotient_of(firsts[1][number], firsts[0])]
    return tuple(row)


def first_at(clock, deal, move, many):
    """The chance that the moves drawn are move after many deals, and not after fewer."""
    return first_row(clock, deal, move, many)[-1]
