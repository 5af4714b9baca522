"""The reach and the home of a set of moves."""

from evenlater.coming import come_after, come_sizes
from evenlater.coreclocks import back_in, joined, least_in, size_of_part
from evenlater.kinds import is_moves
from evenlater.refusals import need


def reach_of(clock, moves):
    """The least part that has all of the moves."""
    need(is_moves(clock, moves), "moves")
    return least_in(clock, moves)


def settles_after(clock, moves):
    """The least number of deals after which as many moves can come as after all more."""
    return len(come_sizes(clock, moves))


def home_of(clock, moves):
    """The least part that is kept within the reach, with the moves in one coset of it."""
    # what can come once its size stays is a coset of the home
    settled = come_after(clock, moves, settles_after(clock, moves))
    back = back_in(clock, settled[0])
    return least_in(clock, [joined(clock, move, back) for move in settled])


def period_of(clock, moves):
    """The size of the reach by that of the home."""
    return size_of_part(reach_of(clock, moves)) // size_of_part(home_of(clock, moves))
