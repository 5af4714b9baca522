"""The classes of moves."""

from evenlater.coreclocks import class_in, every_class
from evenlater.kinds import is_move
from evenlater.refusals import need


def class_of(clock, move):
    """The class of the move, a set."""
    need(is_move(clock, move), "move")
    return class_in(clock, move)


def classes_of(clock):
    """All classes, ascending."""
    return every_class(clock)
