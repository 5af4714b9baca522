"""Two parts that give each move in exactly one way, as their sizes tell."""

from evenlater.coreclocks import every_part, size_in, size_of_part
from evenlater.kinds import is_part
from evenlater.refusals import need


def _are_full(clock, one, other):
    # no prime divides n twice, so that each one divides just one of two sizes whose product is n
    return size_of_part(one) * size_of_part(other) == size_in(clock)


def part_fillers(clock, part):
    """The set of all parts such that each move is one of part, then one of these, in exactly one way."""
    need(is_part(clock, part), "part")
    return tuple([other for other in every_part(clock) if _are_full(clock, part, other)])


def parts_full(clock, one, other):
    """Whether each move is one of the part one, then one of the part other, in exactly one way."""
    need(is_part(clock, one), "one")
    need(is_part(clock, other), "other")
    return _are_full(clock, one, other)
