"""The chances of moves after many deals of a plain deal, and how far they are spread."""

from evenlater.coreclocks import number_in
from evenlater.corenumbers import lowest
from evenlater.dealing import dealt_again
from evenlater.dealkinds import is_plain
from evenlater.kinds import is_move, is_number
from evenlater.refusals import need


def chance_at(clock, deal, move, many):
    """The weight at the move of the power of the plain deal to many, by the total of this power."""
    need(is_plain(clock, deal), "deal")
    need(is_move(clock, move), "move")
    need(is_number(many), "many")
    weights = dealt_again(clock, deal, many)[1]
    return lowest(weights[number_in(clock, move)], sum(weights))


def spread_of(clock, deal):
    """The greatest weight of the plain deal less the least one, by its total."""
    need(is_plain(clock, deal), "deal")
    return lowest(max(deal[1]) - min(deal[1]), sum(deal[1]))


def spread_after(clock, deal, many):
    """The spread of the power of the plain deal to many."""
    need(is_plain(clock, deal), "deal")
    need(is_number(many), "many")
    return spread_of(clock, dealt_again(clock, deal, many))
