"""What is made of a deal from both sides."""

from evenlater.coreclocks import every_move
from evenlater.dealing import dealt
from evenlater.dealkinds import need_deals
from evenlater.dealmaking import idle_deal, single_deal
from evenlater.dealsums import added
from evenlater.errors import Lacking
from evenlater.pieces import pieces_of
from evenlater.ranks import free_many, rank_at
from evenlater.solving import ahead_of


def _lacking(clock, one, other):
    """The pieces at which the rank of other is above that of one."""
    pieces = pieces_of(clock)
    return [piece for piece in pieces if rank_at(clock, piece, other) > rank_at(clock, piece, one)]


def _through(clock, one, deal, other):
    return dealt(clock, dealt(clock, one, deal), other)


def _wider(clock, one, deal, other):
    """A deal with a further move, through which more of one meets other than through this one."""
    least, times = free_many(clock, _through(clock, one, deal, other)), 1
    # where some is missing, there is a move that adds to it, but for a few times that undo as much elsewhere
    while True:
        for move in every_move(clock):
            wider = added(clock, deal, single_deal(clock, move, (times, 1)))
            if free_many(clock, _through(clock, one, wider, other)) > least:
                return wider
        times = times + 1


def linking(clock, one, other):
    """A deal D so that one * D * other has at each piece the lesser of the ranks of one and other, where that of other
    is at no piece above that of one."""
    deal, most = idle_deal(clock), free_many(clock, other)
    while free_many(clock, _through(clock, one, deal, other)) < most:
        deal = _wider(clock, one, deal, other)
    return deal


def made_between(clock, one, other):
    """A pair (U, V) of deals with U * one * V = other; Lacking at the first piece at which one has too low a rank."""
    need_deals(clock, one, other)
    lacking = _lacking(clock, one, other)
    if len(lacking) > 0:
        raise Lacking(lacking[0])
    behind = dealt(clock, linking(clock, one, other), other)
    # one * behind is made of other from the left and has its ranks, so that other is made of it, too
    return ahead_of(clock, dealt(clock, one, behind), other), behind
