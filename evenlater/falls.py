"""How the ranks of the powers of a deal fall, piece by piece."""

from evenlater.dealing import dealt_again
from evenlater.dealkinds import is_deal
from evenlater.kinds import is_from_to, is_number, is_piece
from evenlater.pieces import edge_at, pieces_of
from evenlater.ranks import rank_at
from evenlater.refusals import need

MOST_EDGE = 60
MOST_LISTED = 8


def falls_at(clock, piece, deal):
    """The deal's falls at the piece."""
    need(is_piece(clock, piece), "piece")
    need(is_deal(clock, deal), "deal")
    edge = edge_at(clock, piece)
    ranks = [rank_at(clock, piece, dealt_again(clock, deal, many)) for many in range(1, edge + 1)]
    return (edge, *ranks)


def falls_of(clock, deal):
    """The deal's falls at all pieces, in their order."""
    need(is_deal(clock, deal), "deal")
    return tuple([falls_at(clock, piece, deal) for piece in pieces_of(clock)])


def uneven_pieces(clock, deal):
    """The set of all pieces but (1, 1) at which the deal's falls do not end with 0."""
    rows = falls_of(clock, deal)
    return tuple([piece for piece, falls in zip(pieces_of(clock), rows) if piece != (1, 1) and falls[-1] > 0])


def _steps(falls):
    return [falls[k - 1] - falls[k] for k in range(1, len(falls))]


def is_fall_row(edge, thing):
    """Whether thing is falls for the edge, which is one."""
    if not (isinstance(thing, tuple) and len(thing) == edge + 1 and all([is_number(value) for value in thing])):
        return False
    steps = _steps(thing)
    never_grow = all([steps[k - 1] >= steps[k] for k in range(1, edge)])
    return thing[0] == edge and steps[-1] >= 0 and never_grow


def is_falls(edge, thing):
    """Whether thing is falls for the edge, an integer from 1 to sixty."""
    need(is_from_to(edge, 1, MOST_EDGE), "edge")
    return is_fall_row(edge, thing)


def all_falls(edge):
    """All falls for the edge, an integer from 1 to eight, ascending."""
    need(is_from_to(edge, 1, MOST_LISTED), "edge")
    rows = [(edge, least) for least in range(edge + 1)]
    for _ in range(1, edge):
        rows = [(*row, least) for row in rows for least in range(max(0, 2 * row[-1] - row[-2]), row[-1] + 1)]
    return tuple(sorted(rows))


def blocks_of(edge, falls):
    """The lengths of the rows of steps by which a deal with these falls fades, from the longest on."""
    need(is_from_to(edge, 1, MOST_EDGE), "edge")
    need(is_fall_row(edge, falls), "falls")
    steps = _steps(falls)
    return tuple([len([step for step in steps if step > k]) for k in range(steps[0])])


def is_fall_rows(clock, thing):
    """Whether thing is a tuple with falls for the edge of each piece, in their order."""
    pieces = pieces_of(clock)
    if not (isinstance(thing, tuple) and len(thing) == len(pieces)):
        return False
    return all([is_fall_row(edge_at(clock, piece), falls) for piece, falls in zip(pieces, thing)])


def after_of_falls(clock, rows):
    """even_after of the deals with these falls at all pieces."""
    need(is_fall_rows(clock, rows), "rows")
    others = [falls for piece, falls in zip(pieces_of(clock), rows) if piece != (1, 1)]
    if any([falls[-1] > 0 for falls in others]):
        return None
    ends = [falls.index(0) for falls in others]
    return max([1, *ends])
