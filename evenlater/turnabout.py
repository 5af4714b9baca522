"""Two deals both ways about, and rows of deals that become even."""

from evenlater.dealing import dealt
from evenlater.dealkinds import is_deal_row, need_deals
from evenlater.dealmaking import idle_deal
from evenlater.evens import even_after
from evenlater.refusals import need
from evenlater.signs import is_even


def both_ways(clock, one, other):
    """The pair of even_after of one then other and of other then one."""
    need_deals(clock, one, other)
    return even_after(clock, dealt(clock, one, other)), even_after(clock, dealt(clock, other, one))


def row_after(clock, deals):
    """How many of the deals, multiplied in order, are even, at least one; the least such number, or None."""
    need(is_deal_row(clock, deals), "deals")
    product = idle_deal(clock)
    for k, deal in enumerate(deals):
        product = dealt(clock, product, deal)
        if is_even(clock, product):
            return k + 1
    return None
