"""Deals of told falls."""

from evenlater.dealsums import added_row
from evenlater.falls import blocks_of, is_fall_row, is_fall_rows
from evenlater.frames import frame_of
from evenlater.kinds import is_piece
from evenlater.pieces import edge_at, pieces_of
from evenlater.refusals import need


def deal_of_falls(clock, piece, falls):
    """A deal with these falls at the piece, and with rank 0 at all others."""
    need(is_piece(clock, piece), "piece")
    edge = edge_at(clock, piece)
    need(is_fall_row(edge, falls), "falls")
    frame, start = frame_of(clock, piece), falls[-1]
    deals = [frame[i][i] for i in range(start)]
    for length in blocks_of(edge, falls):
        steps = [frame[i][i + 1] for i in range(start, start + length - 1)]
        deals, start = [*deals, *steps], start + length
    return added_row(clock, deals)


def deal_of_rows(clock, rows):
    """A deal with these falls at all pieces."""
    need(is_fall_rows(clock, rows), "rows")
    return added_row(clock, [deal_of_falls(clock, piece, falls) for piece, falls in zip(pieces_of(clock), rows)])
