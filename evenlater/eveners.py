"""What makes a deal even: the deals of which all such deals are made."""

from evenlater.dealkinds import is_deal
from evenlater.dealmaking import even_deal, idle_deal
from evenlater.dealsums import taken
from evenlater.mirrors import mirrored
from evenlater.pieces import edge_at, pieces_of, width_at
from evenlater.ranks import ranks_of
from evenlater.refusals import need
from evenlater.sides import left_side
from evenlater.weighing import total_of


def evener_right(clock, deal):
    """The own mirror and own square P so that deal * B is even exactly if P * B is B."""
    need(is_deal(clock, deal), "deal")
    # less its even part, a deal is even times B only where it is 0 times B
    uneven = taken(clock, deal, even_deal(clock, total_of(clock, deal)))
    return taken(clock, idle_deal(clock), left_side(clock, uneven))


def evener_left(clock, deal):
    """The own mirror and own square Q so that B * deal is even exactly if B * Q is B."""
    return evener_right(clock, mirrored(clock, deal))


def even_many(clock, deal):
    """How many deals B with deal * B even are independent."""
    rows = [(piece, rank) for piece, rank in zip(pieces_of(clock), ranks_of(clock, deal)) if piece != (1, 1)]
    return 1 + sum([(edge_at(clock, piece) - rank) * width_at(clock, piece) for piece, rank in rows])
