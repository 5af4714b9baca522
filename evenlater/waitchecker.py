"""The checker of tables of waits."""

from evenlater.coreclocks import back_in, every_move, joined, number_in, size_in
from evenlater.corenumbers import lowest
from evenlater.dealkinds import is_plain
from evenlater.errors import InvalidPaper
from evenlater.kinds import is_quotient
from evenlater.moving import IDLE
from evenlater.quotients import plus, times
from evenlater.refusals import need
from evenlater.waits import mean_of, reach_moves
from evenlater.weighing import moves_of


def _check_each(clock, reach, thing):
    for k, move in enumerate(every_move(clock)):
        if not (thing[k] is None or is_quotient(thing[k])):
            raise InvalidPaper("wait", k)
        if (thing[k] is None) == (move in reach):
            raise InvalidPaper("reach", k)


def _wait_by(clock, deal, move, thing):
    """The wait for a move, none that is idle, as the waits in thing tell it for what is left of it after one deal."""
    wait, total = (1, 1), sum(deal[1])
    for drawn in moves_of(clock, deal):
        left = joined(clock, back_in(clock, drawn), move)
        chance = lowest(deal[1][number_in(clock, drawn)], total)
        wait = plus(wait, times(chance, thing[number_in(clock, left)]))
    return wait


def lets_waits(clock, deal, thing):
    """Whether thing is the table of waits of the plain deal: mean_wait, or InvalidPaper."""
    need(is_plain(clock, deal), "deal")
    if not (isinstance(thing, tuple) and len(thing) == size_in(clock)):
        raise InvalidPaper("shape", -1)
    reach = reach_moves(clock, deal)
    _check_each(clock, reach, thing)
    for k, move in enumerate(every_move(clock)):
        if move in reach and thing[k] != ((0, 1) if move == IDLE else _wait_by(clock, deal, move, thing)):
            raise InvalidPaper("sum", k)
    return mean_of(thing)
