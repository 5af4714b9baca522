"""Deals with equal weights within each class, which can be exchanged with every deal."""

from math import lcm

from evenlater.classes import classes_of
from evenlater.coreclocks import number_in, size_in
from evenlater.corenumbers import lowest_row
from evenlater.dealmaking import deal_on
from evenlater.kinds import are_quotients
from evenlater.refusals import need
from evenlater.signs import is_alike
from evenlater.weighing import weight_at


def class_deals(clock):
    """The deals with 1 on a class, 0 elsewhere, in the order of the classes."""
    return tuple([deal_on(clock, some) for some in classes_of(clock)])


def exchange_many(clock):
    """How many classes there are."""
    return len(classes_of(clock))


def class_weights(clock, deal):
    """The weights of the deal on the classes, within each of which they are equal."""
    need(is_alike(clock, deal), "deal")
    return tuple([weight_at(clock, deal, some[0]) for some in classes_of(clock)])


def deal_of_classes(clock, quotients):
    """The deal with these weights on the classes."""
    need(are_quotients(quotients) and len(quotients) == exchange_many(clock), "quotients")
    bottom = 1
    for quotient in quotients:
        bottom = lcm(bottom, quotient[1])
    weights = [0] * size_in(clock)
    for (top, below), some in zip(quotients, classes_of(clock)):
        for move in some:
            weights[number_in(clock, move)] = top * (bottom // below)
    return lowest_row(bottom, weights)
