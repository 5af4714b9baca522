"""One deal then another one, and powers of a deal."""

from evenlater.coreclocks import every_move, factors_in
from evenlater.corenumbers import lowest_row
from evenlater.dealkinds import is_deal, is_deal_row, need_deals
from evenlater.dealmaking import idle_deal
from evenlater.kinds import is_number
from evenlater.refusals import need


def _numbers_after(clock, move, factors):
    """The numbers of move then each move, by their numbers; factors are those of all turns."""
    beats, turns = clock[0], len(factors)
    rows = [((move[1] + turn) % turns * beats, factor * move[0]) for turn, factor in enumerate(factors)]
    return [first + (away + shift) % beats for first, away in rows for shift in range(beats)]


def _dealt_weights(clock, weights, others):
    factors = factors_in(clock)
    result = [0] * len(weights)
    for move, weight in zip(every_move(clock), weights):
        if weight != 0:
            for number, other in zip(_numbers_after(clock, move, factors), others):
                result[number] = result[number] + weight * other
    return result


def dealt(clock, one, other):
    """The deal one then the deal other."""
    need_deals(clock, one, other)
    return lowest_row(one[0] * other[0], _dealt_weights(clock, one[1], other[1]))


def dealt_row(clock, deals):
    """The deals of a tuple, one then the next, the idle deal for ()."""
    need(is_deal_row(clock, deals), "deals")
    result = idle_deal(clock)
    for deal in deals:
        result = dealt(clock, result, deal)
    return result


def dealt_again(clock, deal, many):
    """The power of the deal to the number many, by squaring."""
    need(is_deal(clock, deal), "deal")
    need(is_number(many), "many")
    result, square, rest = idle_deal(clock), deal, many
    while rest > 0:
        if rest % 2 == 1:
            result = dealt(clock, result, square)
        rest = rest // 2
        if rest > 0:
            square = dealt(clock, square, square)
    return result
