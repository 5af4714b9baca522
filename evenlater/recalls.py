"""The recall of a deal, and its checker."""

from evenlater.dealing import dealt, dealt_row
from evenlater.dealkinds import is_deal
from evenlater.errors import InvalidPaper
from evenlater.mirrors import mirrored
from evenlater.refusals import need
from evenlater.signs import is_own_mirror, is_own_square
from evenlater.solving import ahead_of


def recall_of(clock, deal):
    """The recall of the deal."""
    if is_own_mirror(clock, deal) and is_own_square(clock, deal):
        return deal
    # any X with X * mirror * deal * mirror = mirror will do, and there always is one
    mirror = mirrored(clock, deal)
    return dealt(clock, ahead_of(clock, dealt_row(clock, (mirror, deal, mirror)), mirror), mirror)


def lets_recall(clock, deal, thing):
    """Whether thing is the recall of the deal: True, or InvalidPaper."""
    need(is_deal(clock, deal), "deal")
    if not is_deal(clock, thing):
        raise InvalidPaper("shape", -1)
    if dealt_row(clock, (deal, thing, deal)) != deal:
        raise InvalidPaper("again", -1)
    if dealt_row(clock, (thing, deal, thing)) != thing:
        raise InvalidPaper("itself", -1)
    if not is_own_mirror(clock, dealt(clock, thing, deal)):
        raise InvalidPaper("left", -1)
    if not is_own_mirror(clock, dealt(clock, deal, thing)):
        raise InvalidPaper("right", -1)
    return True
