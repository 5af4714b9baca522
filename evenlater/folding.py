"""Clocks and moves folded by a kept part."""

from evenlater.coreclocks import clock_folded, move_folded
from evenlater.kinds import is_kept_part, is_move
from evenlater.refusals import need


def folded_clock(clock, part):
    """The clock folded by a kept part."""
    need(is_kept_part(clock, part), "part")
    return clock_folded(clock, part)


def folded_move(clock, part, move):
    """The move folded by a kept part."""
    need(is_kept_part(clock, part), "part")
    need(is_move(clock, move), "move")
    return move_folded(clock, part, move)
