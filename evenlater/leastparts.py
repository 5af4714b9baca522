"""The least part with given moves, common parts, turned parts."""

from evenlater.coreclocks import beat_after, every_move, has_move, least_in, spots_in
from evenlater.kinds import is_move, is_moves, is_part
from evenlater.refusals import need


def least_part(clock, moves):
    """The least part that has these moves."""
    need(is_moves(clock, moves), "moves")
    return least_in(clock, moves)


def common_part(clock, one, other):
    """The part of the common moves of two parts."""
    need(is_part(clock, one), "one")
    need(is_part(clock, other), "other")
    moves = every_move(clock)
    return least_in(clock, [move for move in moves if has_move(clock, one, move) and has_move(clock, other, move)])


def turned_part(clock, part, by):
    """The part of the moves of part, each turned by the move by."""
    need(is_part(clock, part), "part")
    need(is_move(clock, by), "by")
    a, f, spot = part
    # turning leaves a and f as they are: the spot goes where the turning move takes it
    return a, f, beat_after(clock, by, spot) % spots_in(clock, a, f)
