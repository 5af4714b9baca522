"""The lasting and the fading side of a deal."""

from evenlater.dealing import dealt, dealt_again
from evenlater.dealkinds import is_deal, is_deal_row, is_zero
from evenlater.dealsums import added, taken
from evenlater.errors import InvalidPaper
from evenlater.kinds import is_pair
from evenlater.ranks import free_many
from evenlater.refusals import need
from evenlater.sizes import last_edge
from evenlater.solving import ahead_of


def fades_after(clock, deal):
    """The least number from 1 on whose power of the fading side is 0."""
    need(is_deal(clock, deal), "deal")
    # no rank of a power is lost any more just when nothing of the fading side is left
    many, power = 1, deal
    left, after = free_many(clock, power), dealt(clock, power, deal)
    while free_many(clock, after) < left:
        many, power = many + 1, after
        left, after = free_many(clock, power), dealt(clock, power, deal)
    return many


def lasting_of(clock, deal):
    """The lasting side."""
    many = fades_after(clock, deal)
    if many == 1:
        return deal
    # in the power to many only the lasting side is left, and there it can be undone
    last = dealt_again(clock, deal, many)
    undoing = ahead_of(clock, dealt(clock, last, last), dealt(clock, last, deal))
    return dealt(clock, undoing, last)


def fading_of(clock, deal):
    """The fading side."""
    return taken(clock, deal, lasting_of(clock, deal))


def lets_parted(clock, deal, thing):
    """Whether thing is the pair of the lasting and the fading side: fades_after, or InvalidPaper."""
    need(is_deal(clock, deal), "deal")
    if not (is_pair(thing) and is_deal_row(clock, thing)):
        raise InvalidPaper("shape", -1)
    lasting, fading = thing
    if added(clock, lasting, fading) != deal:
        raise InvalidPaper("sum", -1)
    if not is_zero(dealt(clock, lasting, fading)):
        raise InvalidPaper("right", -1)
    if not is_zero(dealt(clock, fading, lasting)):
        raise InvalidPaper("left", -1)
    # if the power to the edge of the beats is not 0, none is
    ends = [many for many in range(1, last_edge(clock) + 1) if is_zero(dealt_again(clock, fading, many))]
    if len(ends) == 0:
        raise InvalidPaper("fades", -1)
    if free_many(clock, dealt(clock, lasting, lasting)) < free_many(clock, lasting):
        raise InvalidPaper("lasts", -1)
    return ends[0]
