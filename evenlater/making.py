"""Whether one deal is made of another one from a side, and of which deal it is."""

from evenlater.dealing import dealt
from evenlater.dealkinds import need_deals
from evenlater.dealmaking import idle_deal
from evenlater.dealsums import taken
from evenlater.errors import Unmade
from evenlater.recalls import recall_of


def left_by(clock, one, recall, other):
    """made_left, the recall of one being known."""
    made = dealt(clock, other, recall)
    if dealt(clock, made, one) != other:
        raise Unmade(taken(clock, idle_deal(clock), dealt(clock, recall, one)))
    return made


def right_by(clock, one, recall, other):
    """made_right, the recall of one being known."""
    made = dealt(clock, recall, other)
    if dealt(clock, one, made) != other:
        raise Unmade(taken(clock, idle_deal(clock), dealt(clock, one, recall)))
    return made


def made_left(clock, one, other):
    """A deal X with X * one = other: other, then the recall of one; Unmade if there is none."""
    need_deals(clock, one, other)
    return left_by(clock, one, recall_of(clock, one), other)


def made_right(clock, one, other):
    """A deal X with one * X = other: the recall of one, then other; Unmade if there is none."""
    need_deals(clock, one, other)
    return right_by(clock, one, recall_of(clock, one), other)


def is_made_left(clock, one, other):
    """Whether other is X * one for some deal X."""
    try:
        made_left(clock, one, other)
    except Unmade:
        return False
    return True


def is_made_right(clock, one, other):
    """Whether other is one * X for some deal X."""
    try:
        made_right(clock, one, other)
    except Unmade:
        return False
    return True
