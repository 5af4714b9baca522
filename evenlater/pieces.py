"""The pieces of a clock, with their edges, grains and widths."""

from evenlater.coreclocks import edge_in, turns_in
from evenlater.corenumbers import divisors_in, units_in
from evenlater.kinds import is_piece
from evenlater.refusals import need


def pieces_of(clock):
    """The set of all pieces."""
    pairs = [(a, b) for a in divisors_in(clock[0]) for b in divisors_in(turns_in(clock))]
    return tuple([pair for pair in pairs if is_piece(clock, pair)])


def edge_at(clock, piece):
    """The edge of the piece."""
    need(is_piece(clock, piece), "piece")
    return edge_in(clock, piece[0])


def width_at(clock, piece):
    """The width of the piece (a, b), phi(a) phi(b)."""
    need(is_piece(clock, piece), "piece")
    return units_in(piece[0]) * units_in(piece[1])


def grain_at(clock, piece):
    """The grain of the piece, its width by its edge."""
    return width_at(clock, piece) // edge_at(clock, piece)


def pieces_under(clock, piece):
    """The set of all pieces whose numbers divide those of this one."""
    need(is_piece(clock, piece), "piece")
    return tuple([(a, b) for a in divisors_in(piece[0]) for b in divisors_in(piece[1])])
