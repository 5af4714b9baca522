"""What is made of one or the other of two deals from a side, and what is made of both."""

from evenlater.dealing import dealt
from evenlater.dealkinds import need_deals
from evenlater.dealmaking import idle_deal
from evenlater.dealsums import added, taken
from evenlater.mirrors import mirrored
from evenlater.sides import left_side


def _squared(clock, deal):
    return dealt(clock, mirrored(clock, deal), deal)


def joint_left(clock, one, other):
    """The own mirror and own square of which all X * one + Y * other are made from the left, and no more."""
    need_deals(clock, one, other)
    # only what is 0 behind both deals is 0 behind the sum of both squares
    return left_side(clock, added(clock, _squared(clock, one), _squared(clock, other)))


def _beside(clock, deal):
    """The own mirror and own square of which all that is 0 behind the mirror of deal is made from the left."""
    return taken(clock, idle_deal(clock), left_side(clock, deal))


def common_left(clock, one, other):
    """The own mirror and own square of which all that is made of both from the left is made, and no more."""
    need_deals(clock, one, other)
    return _beside(clock, joint_left(clock, _beside(clock, one), _beside(clock, other)))


def joint_right(clock, one, other):
    """The own mirror and own square of which all one * X + other * Y are made from the right, and no more."""
    need_deals(clock, one, other)
    return joint_left(clock, mirrored(clock, one), mirrored(clock, other))


def common_right(clock, one, other):
    """The own mirror and own square of which all that is made of both from the right is made, and no more."""
    need_deals(clock, one, other)
    return common_left(clock, mirrored(clock, one), mirrored(clock, other))
