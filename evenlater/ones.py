"""The ones of pieces, and what a deal is at a piece."""

from evenlater.coreclocks import every_move, size_in
from evenlater.corenumbers import has_no_square, lowest_row, multiplied, primes_in
from evenlater.dealing import dealt
from evenlater.dealkinds import is_deal, is_zero
from evenlater.dealsums import added_row
from evenlater.kinds import is_from_to, is_integer, is_piece, is_piece_set
from evenlater.numbers import MOST
from evenlater.pieces import edge_at, pieces_of
from evenlater.refusals import need


def _sum_over(primes, integer):
    return multiplied([prime - 1 if integer % prime == 0 else -1 for prime in primes])


def root_sum(number, integer):
    """The product, over the primes of a square-free number, of the prime less 1 if it divides integer, -1 if not."""
    need(is_from_to(number, 1, MOST) and has_no_square(number), "number")
    need(is_integer(integer), "integer")
    return _sum_over(primes_in(number), integer)


def one_of(clock, piece):
    """The one of the piece."""
    need(is_piece(clock, piece), "piece")
    edge, of_beats, of_turns = edge_at(clock, piece), primes_in(piece[0]), primes_in(piece[1])
    moves = every_move(clock)
    weights = [_sum_over(of_beats, x) * _sum_over(of_turns, t) if t % edge == 0 else 0 for x, t in moves]
    return lowest_row(size_in(clock) // edge, weights)


def ones_of(clock, pieces):
    """The ones of a set of pieces, perhaps (), added."""
    need(is_piece_set(clock, pieces), "pieces")
    return added_row(clock, [one_of(clock, piece) for piece in pieces])


def at_piece(clock, piece, deal):
    """The deal times the one of the piece."""
    need(is_piece(clock, piece), "piece")
    need(is_deal(clock, deal), "deal")
    return dealt(clock, deal, one_of(clock, piece))


def ones_in(clock, deal):
    """The set of pieces whose ones added are the deal."""
    need(is_deal(clock, deal), "deal")
    # a sum of ones is 0 at all pieces but its own, so that no other set can do
    found = tuple([piece for piece in pieces_of(clock) if not is_zero(at_piece(clock, piece, deal))])
    need(ones_of(clock, found) == deal, "deal")
    return found
