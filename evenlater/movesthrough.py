"""The single moves through which two deals are even."""

from evenlater.coreclocks import every_move
from evenlater.dealing import dealt
from evenlater.dealkinds import need_deals
from evenlater.dealmaking import single_deal
from evenlater.evenness import is_evened


def _is_through(clock, one, move, other):
    return is_evened(clock, dealt(clock, one, single_deal(clock, move, (1, 1))), other)


def moves_through(clock, one, other):
    """The set of all moves that, dealt once between one and other, make them even."""
    need_deals(clock, one, other)
    return tuple(sorted([move for move in every_move(clock) if _is_through(clock, one, move, other)]))
