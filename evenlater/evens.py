"""After how many deals a deal comes out even."""

from evenlater.dealing import dealt, dealt_again
from evenlater.dealkinds import is_deal
from evenlater.refusals import need
from evenlater.signs import is_even
from evenlater.sizes import last_edge


def even_after(clock, deal):
    """The number after which the deal comes out even, or None."""
    need(is_deal(clock, deal), "deal")
    power = deal
    # if the power to the edge of the beats is not even, none is
    for many in range(1, last_edge(clock) + 1):
        if is_even(clock, power):
            return many
        power = dealt(clock, power, deal)
    return None


def is_even_by(clock, deal, many):
    """Whether the power to many is even."""
    return is_even(clock, dealt_again(clock, deal, many))
