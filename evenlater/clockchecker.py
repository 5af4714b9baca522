"""The checker of clocks."""

from evenlater.coreclocks import size_in
from evenlater.errors import InvalidPaper
from evenlater.kinds import clock_fault


def lets_clock(thing):
    """The number of moves of a clock; InvalidPaper for any other value."""
    fault = clock_fault(thing)
    if fault is not None:
        raise InvalidPaper(fault[0], fault[1])
    return size_in(thing)
