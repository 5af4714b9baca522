"""Frames of pieces: deals that multiply as the places of a square table do."""

from evenlater.coreclocks import factor_in, size_in, turns_in
from evenlater.corenumbers import lowest_row
from evenlater.dealing import dealt
from evenlater.dealkinds import is_deal
from evenlater.dealmaking import deal_on, single_deal, zero_deal
from evenlater.dealsums import added_row, taken
from evenlater.errors import InvalidPaper
from evenlater.kinds import is_piece
from evenlater.ones import one_of
from evenlater.pieces import edge_at
from evenlater.refusals import need


def _shift(clock, shift):
    return single_deal(clock, (shift % clock[0], 0), (1, 1))


def _gap_back(clock, a, factor):
    """At a piece (a, b), where factor is not 1 modulo a, the back of the shift by 1 less the shift by factor."""
    # with y the shift by factor - 1, y to the power a is idle and y is not, so that the sum of all k times y to the
    # power k is a by y less idle
    weights = [0] * size_in(clock)
    for k in range(a):
        number = (k * (factor - 1) - 1) % clock[0]
        weights[number] = weights[number] - k
    return lowest_row(a, weights)


def _duals(clock, piece, factors):
    """The deals Y(j) such that, added over all factors, what the factors make of the shift by i times Y(j) is the one
    if i is j and 0 if not: the coefficients of the product of (z - shift by factor), over all factors but 1, by the
    worth of this product at z = shift by 1."""
    rows, zero = [one_of(clock, piece)], zero_deal(clock)
    for factor in factors[1:]:
        step, back = _shift(clock, factor), _gap_back(clock, piece[0], factor)
        stepped = [dealt(clock, step, row) for row in rows]
        pairs = list(zip([zero, *rows], [*stepped, zero]))
        rows = [dealt(clock, taken(clock, left, right), back) for left, right in pairs]
    return rows


def frame_of(clock, piece):
    """A frame of the piece."""
    need(is_piece(clock, piece), "piece")
    edge, many = edge_at(clock, piece), turns_in(clock)
    turns = range(0, many, many // edge)
    round_deal = deal_on(clock, tuple([(0, turn) for turn in turns]))
    duals = _duals(clock, piece, [factor_in(clock, turn) for turn in turns])
    lines = [dealt(clock, _shift(clock, i), round_deal) for i in range(edge)]
    return tuple([tuple([dealt(clock, line, dual) for dual in duals]) for line in lines])


def _is_square(clock, edge, thing):
    """Whether thing is a tuple of as many tuples of as many deals as edge tells."""
    if not (isinstance(thing, tuple) and len(thing) == edge):
        return False
    if not all([isinstance(row, tuple) and len(row) == edge for row in thing]):
        return False
    return all([is_deal(clock, deal) for row in thing for deal in row])


def lets_frame(clock, piece, thing):
    """Whether thing is a frame of the piece: the edge, or InvalidPaper."""
    need(is_piece(clock, piece), "piece")
    edge, zero = edge_at(clock, piece), zero_deal(clock)
    if not _is_square(clock, edge, thing):
        raise InvalidPaper("shape", -1)
    for i, j in [(i, j) for i in range(edge) for j in range(edge)]:
        if dealt(clock, thing[i][0], thing[0][j]) != thing[i][j]:
            raise InvalidPaper("across", (i, j))
        if dealt(clock, thing[0][i], thing[j][0]) != (thing[0][0] if i == j else zero):
            raise InvalidPaper("meets", (i, j))
    if added_row(clock, [thing[i][i] for i in range(edge)]) != one_of(clock, piece):
        raise InvalidPaper("sum", -1)
    return edge
