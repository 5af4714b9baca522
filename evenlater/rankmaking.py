"""Deals of told ranks."""

from evenlater.dealsums import added_row
from evenlater.frames import frame_of
from evenlater.pieces import pieces_of
from evenlater.ranks import is_ranks
from evenlater.refusals import need


def deal_of_ranks(clock, ranks):
    """A deal with these ranks."""
    need(is_ranks(clock, ranks), "ranks")
    pairs = [(rank, piece) for rank, piece in zip(ranks, pieces_of(clock)) if rank > 0]
    rows = [(rank, frame_of(clock, piece)) for rank, piece in pairs]
    return added_row(clock, [frame[i][i] for rank, frame in rows for i in range(rank)])
