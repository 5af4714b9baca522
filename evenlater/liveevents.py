"""Events of live deals, and logs of them."""

from evenlater.coreclocks import clock_folded
from evenlater.dealkinds import is_deal
from evenlater.kinds import is_clock, is_from_to, is_kept_part, is_move, is_pair, is_quotient

RIGHT = "right"
LEFT = "left"
ADD = "add"
SCALE = "scale"
MIRROR = "mirror"
TURN = "turn"
AGAIN = "again"
FOLD = "fold"
BEGIN = "begin"
MOST_FIGURES = 60
MOST_TIMES = 6
LEAST_TOO_LONG = 10 ** 60


def are_short(numbers):
    """Whether each of these integers has at most sixty figures."""
    return all([abs(number) < LEAST_TOO_LONG for number in numbers])


def is_short_deal(deal):
    """Whether the bottom and the weights of a deal have at most sixty figures."""
    return are_short([deal[0]]) and are_short(deal[1])


def brings_deal(word):
    """Whether word is that of an event with a deal."""
    return word in (RIGHT, LEFT, ADD)


def is_word(word):
    """Whether word is that of an event."""
    return brings_deal(word) or word in (SCALE, MIRROR, TURN, AGAIN, FOLD)


def _is_given(clock, word, given):
    """Whether given is what an event with this word may have."""
    if brings_deal(word):
        return is_deal(clock, given) and is_short_deal(given)
    if word == SCALE:
        return is_quotient(given) and are_short(given)
    if word == TURN:
        return is_move(clock, given)
    if word == AGAIN:
        return is_from_to(given, 1, MOST_TIMES)
    return word == FOLD and is_kept_part(clock, given)


def is_event(clock, thing):
    """Whether thing is an event of the clock."""
    if is_pair(thing):
        return _is_given(clock, thing[0], thing[1])
    return isinstance(thing, tuple) and thing == (MIRROR,)


def clock_after(clock, event):
    """The clock after an event of it."""
    return clock_folded(clock, event[1]) if event[0] == FOLD else clock


def _is_begin(thing):
    return is_pair(thing) and thing[0] == BEGIN and is_clock(thing[1])


def is_log(thing):
    """Whether thing is a log."""
    if not (isinstance(thing, tuple) and len(thing) > 0 and _is_begin(thing[0])):
        return False
    clock = thing[0][1]
    for event in thing[1:]:
        if not is_event(clock, event):
            return False
        clock = clock_after(clock, event)
    return True
