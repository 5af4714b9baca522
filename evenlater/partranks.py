"""The ranks of even deals on parts, and parts that together give all moves."""

from math import gcd

from evenlater.coreclocks import size_in, size_of_part
from evenlater.corenumbers import primes_in
from evenlater.kinds import is_part
from evenlater.pieces import edge_at, pieces_of
from evenlater.refusals import need


def _rank_on(clock, part, piece):
    """The rank at the piece of the even deal on the part, which needs no table."""
    if gcd(piece[0], part[0]) > 1 or gcd(piece[1], part[1]) > 1:
        return 0
    edge = edge_at(clock, piece)
    return edge // gcd(edge, part[1])


def part_ranks(clock, part):
    """The ranks of the even deal on the part."""
    need(is_part(clock, part), "part")
    return tuple([_rank_on(clock, part, piece) for piece in pieces_of(clock)])


def quiet_pieces(clock, part):
    """The set of the pieces at which the even deal on the part has the rank 0."""
    need(is_part(clock, part), "part")
    return tuple([piece for piece in pieces_of(clock) if _rank_on(clock, part, piece) == 0])


def parts_cover(clock, one, other):
    """Whether each move is a move of the part one, then one of the part other."""
    need(is_part(clock, one), "one")
    need(is_part(clock, other), "other")
    both = size_of_part(one) * size_of_part(other)
    return all([both % prime == 0 for prime in primes_in(size_in(clock))])
