"""Moves: one then another, backs, turning, and what they do to beats."""

from evenlater.coreclocks import back_in, beat_after, every_move, factor_in, joined, number_in, size_in
from evenlater.coreclocks import turned_in, turns_in
from evenlater.kinds import is_below, is_integer, is_move
from evenlater.refusals import need

IDLE = (0, 0)


def factor_at(clock, turn):
    """The factor of a turn."""
    need(is_below(turn, turns_in(clock)), "turn")
    return factor_in(clock, turn)


def then(clock, one, other):
    """The move one then the move other."""
    need(is_move(clock, one), "one")
    need(is_move(clock, other), "other")
    return joined(clock, one, other)


def back_of(clock, move):
    """The back of a move."""
    need(is_move(clock, move), "move")
    return back_in(clock, move)


def moved_times(clock, move, many):
    """many times the move; below 0 as many times its back."""
    need(is_move(clock, move), "move")
    need(is_integer(many), "many")
    # n times any move is the idle one, so only the rest counts, below 0 too
    result = IDLE
    for _ in range(many % size_in(clock)):
        result = joined(clock, result, move)
    return result


def turned_by(clock, move, by):
    """The move turned by the move by."""
    need(is_move(clock, move), "move")
    need(is_move(clock, by), "by")
    return turned_in(clock, move, by)


def takes(clock, move, beat):
    """The beat to which the move takes beat."""
    need(is_move(clock, move), "move")
    need(is_below(beat, clock[0]), "beat")
    return beat_after(clock, move, beat)


def number_of(clock, move):
    """The number of a move."""
    need(is_move(clock, move), "move")
    return number_in(clock, move)


def move_at(clock, number):
    """The move with this number."""
    need(is_below(number, size_in(clock)), "number")
    return number % clock[0], number // clock[0]


def all_moves(clock):
    """All moves, by their numbers."""
    return every_move(clock)


def order_of(clock, move):
    """The least number of times, from 1 on, that gives the idle move."""
    need(is_move(clock, move), "move")
    many, result = 1, move
    while result != IDLE:
        many, result = many + 1, joined(clock, result, move)
    return many
