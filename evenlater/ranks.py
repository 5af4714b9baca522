"""The ranks of a deal, one for each piece."""

from evenlater.boards import board_table
from evenlater.dealkinds import is_deal
from evenlater.errors import InvalidPaper
from evenlater.kinds import is_number
from evenlater.ones import at_piece
from evenlater.pieces import edge_at, grain_at, pieces_of, width_at
from evenlater.ranking import rank_of
from evenlater.refusals import need


def board_rank(clock, piece, deal):
    """The rank of the deal's table on the board of the piece."""
    return rank_of(board_table(clock, piece, deal)[1])


def rank_at(clock, piece, deal):
    """The rank of the deal at the piece."""
    # at_piece has the rank 0 at all other pieces, so that its table tells of this one alone
    return board_rank(clock, piece, at_piece(clock, piece, deal)) // grain_at(clock, piece)


def ranks_of(clock, deal):
    """The ranks of the deal, in the order of the pieces."""
    need(is_deal(clock, deal), "deal")
    return tuple([rank_at(clock, piece, deal) for piece in pieces_of(clock)])


def free_many(clock, deal):
    """How many of all deals times this one are independent: the sum of rank times width over all pieces."""
    ranks = ranks_of(clock, deal)
    return sum([rank * width_at(clock, piece) for rank, piece in zip(ranks, pieces_of(clock))])


def _are_numbers(clock, thing):
    """Whether thing is a tuple of numbers, one for each piece."""
    if not (isinstance(thing, tuple) and len(thing) == len(pieces_of(clock))):
        return False
    return all([is_number(value) for value in thing])


def is_ranks(clock, thing):
    """Whether thing is a tuple of numbers, one for each piece, none above the edge of its piece."""
    if not _are_numbers(clock, thing):
        return False
    return all([rank <= edge_at(clock, piece) for rank, piece in zip(thing, pieces_of(clock))])


def lets_ranks(clock, deal, thing):
    """Whether thing is the ranks of the deal: free_many, or InvalidPaper."""
    need(is_deal(clock, deal), "deal")
    if not _are_numbers(clock, thing):
        raise InvalidPaper("shape", -1)
    for k, rank in enumerate(ranks_of(clock, deal)):
        if thing[k] != rank:
            raise InvalidPaper("rank", k)
    return free_many(clock, deal)
