"""Deals made of weights, of sets of moves, of totals."""

from evenlater.coreclocks import every_move, moves_in_part, size_in, size_of_part
from evenlater.corenumbers import lowest_row
from evenlater.dealkinds import is_weights
from evenlater.kinds import is_integer, is_move, is_move_set, is_part, is_quotient
from evenlater.refusals import need


def settled(clock, bottom, weights):
    """The deal in which the move with the number i has weights[i] / bottom."""
    need(is_integer(bottom) and bottom != 0, "bottom")
    need(is_weights(clock, weights), "weights")
    return lowest_row(bottom, weights)


def _shared(clock, moves, quotient):
    """The deal with the weight quotient on each of these moves, 0 elsewhere."""
    return lowest_row(quotient[1], [quotient[0] if move in moves else 0 for move in every_move(clock)])


def zero_deal(clock):
    """The deal with no weight but 0."""
    return _shared(clock, (), (0, 1))


def idle_deal(clock):
    """The deal with 1 at the idle move, 0 elsewhere."""
    return _shared(clock, ((0, 0),), (1, 1))


def deal_on(clock, moves):
    """The deal with weight 1 on each move of a set, perhaps (), 0 elsewhere."""
    need(is_move_set(clock, moves), "moves")
    return _shared(clock, moves, (1, 1))


def even_deal(clock, quotient):
    """The even deal with this total."""
    need(is_quotient(quotient), "quotient")
    many = size_in(clock)
    return lowest_row(quotient[1] * many, [quotient[0]] * many)


def even_on(clock, part):
    """The deal with total 1 that is even on the part, 0 elsewhere."""
    need(is_part(clock, part), "part")
    return _shared(clock, moves_in_part(clock, part), (1, size_of_part(part)))


def single_deal(clock, move, quotient):
    """The deal with this weight at move, 0 elsewhere."""
    need(is_move(clock, move), "move")
    need(is_quotient(quotient), "quotient")
    return _shared(clock, (move,), quotient)
