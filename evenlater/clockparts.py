"""The parts of a clock, their moves and their cosets."""

from evenlater.coreclocks import coset_in, every_move, every_part, has_move, moves_in_part, size_of_part
from evenlater.kinds import is_kept_part, is_move, is_part
from evenlater.refusals import need


def part_moves(clock, part):
    """The set of the moves of the part."""
    need(is_part(clock, part), "part")
    return moves_in_part(clock, part)


def in_part(clock, part, move):
    """Whether the move is one of the part."""
    need(is_part(clock, part), "part")
    need(is_move(clock, move), "move")
    return has_move(clock, part, move)


def part_size(clock, part):
    """How many moves the part has."""
    need(is_part(clock, part), "part")
    return size_of_part(part)


def is_kept(clock, part):
    """Whether the part is kept."""
    need(is_part(clock, part), "part")
    return is_kept_part(clock, part)


def parts_of(clock):
    """The set of the triples of all parts."""
    return every_part(clock)


def kept_parts(clock):
    """The set of the triples of all kept parts."""
    return tuple([part for part in every_part(clock) if is_kept_part(clock, part)])


def coset_of(clock, part, move):
    """The set of all moves of the part, each one then move."""
    need(is_part(clock, part), "part")
    need(is_move(clock, move), "move")
    return coset_in(clock, part, move)


def cosets_of(clock, part):
    """All cosets of the part, ascending."""
    need(is_part(clock, part), "part")
    return tuple(sorted({coset_in(clock, part, move) for move in every_move(clock)}))
