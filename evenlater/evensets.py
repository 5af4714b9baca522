"""What deals that come out even have in common."""

from evenlater.coreclocks import size_in
from evenlater.corenumbers import multiplied, primes_in
from evenlater.dealfolds import folded_deal
from evenlater.dealkinds import is_deal
from evenlater.folding import folded_clock
from evenlater.refusals import need
from evenlater.signs import is_even
from evenlater.sizes import edge_of


def folds_evenly(clock, deal):
    """Whether the deal is even when folded by the shifts by which moved primes of the beats are turned."""
    need(is_deal(clock, deal), "deal")
    part = multiplied([prime for prime in primes_in(clock[0]) if edge_of(clock, prime) > 1]), 1, 0
    return is_even(folded_clock(clock, part), folded_deal(clock, part, deal))


def divides_total(clock, deal):
    """Whether n divides the total of a deal with bottom 1."""
    need(is_deal(clock, deal) and deal[0] == 1, "deal")
    return sum(deal[1]) % size_in(clock) == 0
