"""The mirror of a deal, and deals turned by a move."""

from evenlater.coreclocks import back_in, every_move, number_in, turned_in
from evenlater.dealkinds import is_deal
from evenlater.kinds import is_move
from evenlater.refusals import need


def mirrored(clock, deal):
    """The deal that has at each move the weight at its back."""
    need(is_deal(clock, deal), "deal")
    backs = [back_in(clock, move) for move in every_move(clock)]
    return deal[0], tuple([deal[1][number_in(clock, back)] for back in backs])


def turned_deal(clock, deal, by):
    """The deal in which each move, turned by the move by, has the weight that the move has in deal."""
    need(is_deal(clock, deal), "deal")
    need(is_move(clock, by), "by")
    # a move gets the weight of the one that by turns into it, which is the move turned by the back of by
    ahead = [turned_in(clock, move, back_in(clock, by)) for move in every_move(clock)]
    return deal[0], tuple([deal[1][number_in(clock, move)] for move in ahead])
