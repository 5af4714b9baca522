"""Papers that show whether one deal is made of another one from a side."""

from evenlater.dealing import dealt
from evenlater.dealkinds import is_deal, is_zero, need_deals
from evenlater.errors import InvalidPaper, Unmade
from evenlater.kinds import is_pair
from evenlater.making import made_left, made_right
from evenlater.refusals import need

LEFT = "left"
RIGHT = "right"
MADE = "made"
APART = "apart"


def is_side(thing):
    """Whether thing is the string left or the string right."""
    return thing in (LEFT, RIGHT)


def made_paper(clock, side, one, other):
    """What lets_made accepts for the two deals."""
    need(is_side(side), "side")
    need_deals(clock, one, other)
    try:
        made = made_left(clock, one, other) if side == LEFT else made_right(clock, one, other)
    except Unmade as e:
        return APART, e.witness
    return MADE, made


def _joined(clock, side, deal, own):
    """What deal makes of own from the side."""
    return dealt(clock, deal, own) if side == LEFT else dealt(clock, own, deal)


def lets_made(clock, side, one, other, thing):
    """Whether thing shows if other is made of one from the side: the word ahead, or InvalidPaper."""
    need(is_side(side), "side")
    need_deals(clock, one, other)
    if not (is_pair(thing) and thing[0] in (MADE, APART) and is_deal(clock, thing[1])):
        raise InvalidPaper("shape", -1)
    word, deal = thing
    if word == MADE:
        if _joined(clock, side, deal, one) != other:
            raise InvalidPaper("product", -1)
        return word
    # what shows that other is not made of one stands on the other side of both
    if not is_zero(_joined(clock, side, one, deal)):
        raise InvalidPaper("zero", -1)
    if is_zero(_joined(clock, side, other, deal)):
        raise InvalidPaper("other", -1)
    return word
