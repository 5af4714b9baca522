"""Two sets of moves that give all moves, one of the first, then one of the second."""

from evenlater.coreclocks import joined, number_in, size_in
from evenlater.kinds import is_moves
from evenlater.refusals import need


def _numbers(clock, moves, others):
    """The numbers of each of moves then each of others, as often as they come."""
    need(is_moves(clock, moves), "moves")
    need(is_moves(clock, others), "others")
    return [number_in(clock, joined(clock, move, other)) for move in moves for other in others]


def fills(clock, moves, others):
    """Whether each move is one of moves then one of others in exactly one way."""
    return sorted(_numbers(clock, moves, others)) == list(range(size_in(clock)))


def covers(clock, moves, others):
    """Whether each move is one of moves then one of others in at least one way."""
    return len(set(_numbers(clock, moves, others))) == size_in(clock)
