"""Papers that show whether two deals are even through a third one."""

from evenlater.dealing import dealt
from evenlater.dealkinds import is_deal, need_deals
from evenlater.dealmaking import idle_deal
from evenlater.errors import InvalidPaper, Uneven
from evenlater.evenness import is_crowded, is_evened
from evenlater.kinds import is_pair, is_piece, is_triple
from evenlater.through import even_through

THROUGH = "through"
CROWDED = "crowded"


def through_paper(clock, one, other):
    """What lets_through accepts for the two deals."""
    need_deals(clock, one, other)
    try:
        deal, back = even_through(clock, one, other)
    except Uneven as e:
        return CROWDED, e.piece
    return THROUGH, deal, back


def _check_through(clock, one, other, thing):
    for at in (1, 2):
        if not is_deal(clock, thing[at]):
            raise InvalidPaper("deal", at)
    if not is_evened(clock, dealt(clock, one, thing[1]), other):
        raise InvalidPaper("even", -1)
    if dealt(clock, thing[1], thing[2]) != idle_deal(clock):
        raise InvalidPaper("back", -1)


def lets_through(clock, one, other, thing):
    """Whether thing shows if one and other are even through a third deal: the word ahead, or InvalidPaper."""
    need_deals(clock, one, other)
    if is_triple(thing) and thing[0] == THROUGH:
        _check_through(clock, one, other, thing)
        return THROUGH
    if not (is_pair(thing) and thing[0] == CROWDED):
        raise InvalidPaper("shape", -1)
    if not is_piece(clock, thing[1]):
        raise InvalidPaper("piece", 1)
    if not is_crowded(clock, thing[1], one, other):
        raise InvalidPaper("ranks", -1)
    return CROWDED
