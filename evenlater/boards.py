"""The board of a piece: its places, and the table of a deal on it."""

from evenlater.coreclocks import every_move, factor_in, factors_in
from evenlater.dealkinds import is_deal
from evenlater.kinds import is_below, is_move, is_pair, is_piece
from evenlater.refusals import need


def _is_place(piece, thing):
    return is_pair(thing) and is_below(thing[0], piece[0]) and is_below(thing[1], piece[1])


def _went(piece, place, move, factor):
    return (factor * place[0] + move[0]) % piece[0], (place[1] + move[1]) % piece[1]


def _number(piece, place):
    return place[1] * piece[0] + place[0]


def place_after(clock, piece, place, move):
    """The place to which the move takes the place."""
    need(is_piece(clock, piece), "piece")
    need(_is_place(piece, place), "place")
    need(is_move(clock, move), "move")
    return _went(piece, place, move, factor_in(clock, move[1]))


def place_number(clock, piece, place):
    """The number of the place."""
    need(is_piece(clock, piece), "piece")
    need(_is_place(piece, place), "place")
    return _number(piece, place)


def _table_row(clock, piece, place, weights, factors):
    row = [0] * (piece[0] * piece[1])
    for move, weight in zip(every_move(clock), weights):
        column = _number(piece, _went(piece, place, move, factors[move[1]]))
        row[column] = row[column] + weight
    return tuple(row)


def board_table(clock, piece, deal):
    """The deal's bottom, and the rows of its table on the board, each entry times this bottom."""
    need(is_piece(clock, piece), "piece")
    need(is_deal(clock, deal), "deal")
    factors = factors_in(clock)
    places = [(beat, turn) for turn in range(piece[1]) for beat in range(piece[0])]
    return deal[0], tuple([_table_row(clock, piece, place, deal[1], factors) for place in places])
