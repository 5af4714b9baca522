"""Papers that show whether one deal is made of another one from both sides."""

from evenlater.between import made_between
from evenlater.dealing import dealt_row
from evenlater.dealkinds import is_deal, need_deals
from evenlater.errors import InvalidPaper, Lacking
from evenlater.kinds import is_pair, is_piece, is_triple
from evenlater.ranks import rank_at

BETWEEN = "between"
LACKS = "lacks"


def between_paper(clock, one, other):
    """What lets_between accepts for the two deals."""
    need_deals(clock, one, other)
    try:
        ahead, behind = made_between(clock, one, other)
    except Lacking as e:
        return LACKS, e.piece
    return BETWEEN, ahead, behind


def _is_between(clock, thing):
    return is_triple(thing) and thing[0] == BETWEEN and is_deal(clock, thing[1]) and is_deal(clock, thing[2])


def lets_between(clock, one, other, thing):
    """Whether thing shows if other is made of one from both sides: the word ahead, or InvalidPaper."""
    need_deals(clock, one, other)
    if _is_between(clock, thing):
        if dealt_row(clock, (thing[1], one, thing[2])) != other:
            raise InvalidPaper("product", -1)
        return BETWEEN
    if not (is_pair(thing) and thing[0] == LACKS and is_piece(clock, thing[1])):
        raise InvalidPaper("shape", -1)
    if rank_at(clock, thing[1], other) <= rank_at(clock, thing[1], one):
        raise InvalidPaper("rank", -1)
    return LACKS
