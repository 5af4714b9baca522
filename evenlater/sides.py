"""The left and the right side of a deal."""

from evenlater.dealing import dealt
from evenlater.recalls import recall_of


def left_side(clock, deal):
    """The recall, then the deal."""
    return dealt(clock, recall_of(clock, deal), deal)


def right_side(clock, deal):
    """The deal, then the recall."""
    return dealt(clock, deal, recall_of(clock, deal))
