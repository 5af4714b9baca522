"""The back of a deal."""

from evenlater.dealkinds import is_deal
from evenlater.dealmaking import idle_deal
from evenlater.errors import Unrecalled
from evenlater.pieces import edge_at, pieces_of
from evenlater.ranks import rank_at
from evenlater.refusals import need
from evenlater.solving import ahead_of


def _lacking(clock, deal):
    """The pieces at which the rank of the deal is below the edge."""
    return [piece for piece in pieces_of(clock) if rank_at(clock, piece, deal) < edge_at(clock, piece)]


def has_back(clock, deal):
    """Whether the deal has a back."""
    need(is_deal(clock, deal), "deal")
    return len(_lacking(clock, deal)) == 0


def need_back(clock, deal):
    """Unrecalled at the first piece at which the deal lacks some of the rank that a back needs."""
    need(is_deal(clock, deal), "deal")
    lacking = _lacking(clock, deal)
    if len(lacking) > 0:
        raise Unrecalled(lacking[0])


def back_deal(clock, deal):
    """The back of the deal; Unrecalled if there is none."""
    need_back(clock, deal)
    return ahead_of(clock, deal, idle_deal(clock))
