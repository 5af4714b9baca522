"""Whether two deals are even, one then the other, and the pieces that they crowd."""

from evenlater.dealing import dealt
from evenlater.dealkinds import need_deals
from evenlater.pieces import edge_at, pieces_of
from evenlater.ranks import rank_at
from evenlater.signs import is_even


def is_evened(clock, one, other):
    """Whether one * other is even."""
    return is_even(clock, dealt(clock, one, other))


def is_crowded(clock, piece, one, other):
    """Whether the ranks of both deals at the piece, which is not (1, 1), add up to more than its edge."""
    if piece == (1, 1):
        return False
    return rank_at(clock, piece, one) + rank_at(clock, piece, other) > edge_at(clock, piece)


def first_crowded(clock, one, other):
    """The first piece that both deals crowd, or None."""
    need_deals(clock, one, other)
    for piece in pieces_of(clock):
        if is_crowded(clock, piece, one, other):
            return piece
    return None
