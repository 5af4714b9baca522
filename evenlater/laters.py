"""Deals that come out even after a told number."""

from evenlater.dealsums import added, added_row, scaled
from evenlater.dealmaking import even_deal
from evenlater.frames import frame_of
from evenlater.kinds import is_from_to
from evenlater.refusals import need
from evenlater.sizes import last_edge, moves_many


def later_deal(clock, many):
    """A plain deal with bottom 1 that comes out even after many."""
    need(is_from_to(many, 1, last_edge(clock)), "many")
    frame = frame_of(clock, (clock[0], 1))
    # the power of this deal to many, and none before, is 0; with 1 beat many is 1, and it is 0 itself
    fading = added_row(clock, [frame[i][i + 1] for i in range(many - 1)])
    whole = scaled(clock, fading, (fading[0], 1))
    # an even deal does not meddle with what fades, and keeps all weights from falling below 0
    weight = max(1, -min(whole[1]))
    return added(clock, whole, even_deal(clock, (weight * moves_many(clock), 1)))
