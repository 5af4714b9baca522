"""Deals with a back through which two deals are even."""

from evenlater.backs import back_deal
from evenlater.between import linking
from evenlater.coreclocks import every_move, size_in
from evenlater.dealing import dealt
from evenlater.dealkinds import need_deals
from evenlater.dealmaking import single_deal
from evenlater.dealsums import added, scaled
from evenlater.errors import Uneven
from evenlater.eveners import evener_left, evener_right
from evenlater.evenness import first_crowded
from evenlater.movesthrough import moves_through
from evenlater.ranks import free_many


def _whole(clock, deal):
    """The deal without its bottom, which keeps what is added to it from growing long."""
    return scaled(clock, deal, (deal[0], 1))


def _wider(clock, deal, behind):
    """The deal with a further move ahead of behind, so that its ranks are higher."""
    least, times = free_many(clock, deal), 1
    # what deal takes to 0 is not what behind takes to 0, so that there is a move that adds to its ranks, but for a few
    # times that undo as much elsewhere
    while True:
        for move in every_move(clock):
            more = dealt(clock, single_deal(clock, move, (times, 1)), behind)
            if free_many(clock, added(clock, deal, more)) > least:
                return added(clock, deal, more)
        times = times + 1


def _with_back(clock, one, other):
    """A deal with a back through which one and other, which crowd no piece, are even."""
    ahead, behind = _whole(clock, evener_right(clock, one)), _whole(clock, evener_left(clock, other))
    # of ahead enough is left behind other to have its ranks there; all that is ahead of behind only adds to the rest
    deal = dealt(clock, ahead, linking(clock, ahead, other))
    while free_many(clock, deal) < size_in(clock):
        deal = _wider(clock, deal, behind)
    return deal


def even_through(clock, one, other):
    """A pair (U, V) of deals, each the back of the other, with one * U * other even; Uneven at the first piece that is
    crowded."""
    need_deals(clock, one, other)
    piece = first_crowded(clock, one, other)
    if piece is not None:
        raise Uneven(piece)
    moves = moves_through(clock, one, other)
    deal = single_deal(clock, moves[0], (1, 1)) if len(moves) > 0 else _with_back(clock, one, other)
    return deal, back_deal(clock, deal)
