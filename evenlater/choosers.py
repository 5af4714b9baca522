"""Sets that have one move of each coset of a part."""

from evenlater.clockparts import cosets_of
from evenlater.coreclocks import number_in
from evenlater.kinds import is_moves, is_part
from evenlater.refusals import need


def _least(clock, moves):
    """The move with the least number."""
    return min([(number_in(clock, move), move) for move in moves])[1]


def chooser_of(clock, part):
    """The set that has, of each coset of the part, the move with the least number."""
    return tuple(sorted([_least(clock, coset) for coset in cosets_of(clock, part)]))


def is_chooser(clock, part, moves):
    """Whether moves has exactly one move of each coset of the part."""
    need(is_part(clock, part), "part")
    need(is_moves(clock, moves), "moves")
    return all([len([move for move in moves if move in coset]) == 1 for coset in cosets_of(clock, part)])
