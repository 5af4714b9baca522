"""What can come after many deals of a set of moves."""

from evenlater.coreclocks import joined
from evenlater.kinds import is_moves, is_number
from evenlater.moving import IDLE
from evenlater.refusals import need


def _then_any(clock, moves, others):
    """All moves that are one of moves, then one of others, ascending."""
    return tuple(sorted({joined(clock, move, other) for move in moves for other in others}))


def come_after(clock, moves, many):
    """The set of all moves that can come after many deals of moves, by squaring."""
    need(is_moves(clock, moves), "moves")
    need(is_number(many), "many")
    result, square, rest = (IDLE,), moves, many
    while rest > 0:
        if rest % 2 == 1:
            result = _then_any(clock, result, square)
        rest = rest // 2
        if rest > 0:
            square = _then_any(clock, square, square)
    return result


def come_sizes(clock, moves):
    """How many moves can come after 1, 2, .. deals, up to the first size that stays."""
    need(is_moves(clock, moves), "moves")
    sizes, now = [], moves
    while len(sizes) == 0 or len(now) > sizes[-1]:
        sizes = [*sizes, len(now)]
        now = _then_any(clock, now, moves)
    return tuple(sizes)
