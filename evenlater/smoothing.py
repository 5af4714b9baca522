"""The totals of classes, and deals evened out within each class."""

from evenlater.classes import classes_of
from evenlater.coreclocks import number_in
from evenlater.corenumbers import lowest
from evenlater.dealkinds import is_deal
from evenlater.exchanging import deal_of_classes
from evenlater.quotients import over
from evenlater.refusals import need


def class_totals(clock, deal):
    """The class totals, in the order of the classes."""
    need(is_deal(clock, deal), "deal")
    rows = [[deal[1][number_in(clock, move)] for move in some] for some in classes_of(clock)]
    return tuple([lowest(sum(row), deal[0]) for row in rows])


def smoothed(clock, deal):
    """The deal whose weight at each move is the class total of its class by the size of this class."""
    pairs = list(zip(class_totals(clock, deal), classes_of(clock)))
    return deal_of_classes(clock, tuple([over(total, (len(some), 1)) for total, some in pairs]))
