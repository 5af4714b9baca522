"""Whether and when the powers of a plain deal come near to even."""

from evenlater.coreclocks import size_in, size_of_part
from evenlater.corenumbers import lowest
from evenlater.dealing import dealt, dealt_again
from evenlater.dealkinds import is_plain
from evenlater.homes import home_of
from evenlater.kinds import is_number, is_quotient
from evenlater.quotients import compare
from evenlater.refusals import need
from evenlater.spreads import spread_of
from evenlater.weighing import moves_of


def comes_near(clock, deal):
    """Whether the home of the moves of the plain deal is all moves."""
    need(is_plain(clock, deal), "deal")
    return size_of_part(home_of(clock, moves_of(clock, deal))) == size_in(clock)


def near_after(clock, deal, share, many):
    """The least number from 1 to many whose power has a spread of at most share, or None."""
    need(is_plain(clock, deal), "deal")
    need(is_quotient(share), "share")
    need(is_number(many), "many")
    power = deal
    for k in range(1, many + 1):
        if compare(spread_of(clock, power), share) <= 0:
            return k
        power = dealt(clock, power, deal)
    return None


def least_after(clock, deal, many):
    """n times the least weight of the power of the plain deal to many, by its total."""
    need(is_plain(clock, deal), "deal")
    need(is_number(many), "many")
    weights = dealt_again(clock, deal, many)[1]
    return lowest(size_in(clock) * min(weights), sum(weights))
