"""How long one waits for a move while moves are drawn as the weights of a plain deal tell."""

from evenlater.coreclocks import back_in, every_move, joined, moves_in_part, number_in, size_of_part
from evenlater.corenumbers import lowest
from evenlater.dealkinds import is_plain
from evenlater.homes import reach_of
from evenlater.kinds import is_move
from evenlater.moving import IDLE
from evenlater.quotients import over, sum_up
from evenlater.ranking import combined
from evenlater.refusals import need
from evenlater.weighing import moves_of


def reach_moves(clock, deal):
    """The moves of the reach of a plain deal, ascending."""
    return moves_in_part(clock, reach_of(clock, moves_of(clock, deal)))


def _column(clock, deal, move, moves):
    """How the wait for move stands in the equations of moves, which are those without the bottom: the total times the
    wait for g is the total, and the weight of each s times the wait for the back of s, then g."""
    back, total = back_in(clock, move), sum(deal[1])
    # the back of s, then g, is move exactly if s is g, then the back of move
    weights = [deal[1][number_in(clock, joined(clock, known, back))] for known in moves]
    return tuple([(total if known == move else 0) - weight for known, weight in zip(moves, weights)])


def wait_table(clock, deal):
    """wait_for of all moves, by number."""
    need(is_plain(clock, deal), "deal")
    moves = [move for move in reach_moves(clock, deal) if move != IDLE]
    columns = tuple([_column(clock, deal, move, moves) for move in moves])
    bottom, tops = combined(columns, (sum(deal[1]),) * len(moves))
    waits = {move: lowest(top, bottom) for move, top in zip(moves, tops)}
    return tuple([(0, 1) if move == IDLE else waits.get(move) for move in every_move(clock)])


def wait_for(clock, deal, move):
    """The wait for the move; None if it is not in the reach of the moves of the plain deal."""
    need(is_plain(clock, deal), "deal")
    need(is_move(clock, move), "move")
    return wait_table(clock, deal)[number_in(clock, move)]


def mean_of(table):
    """The mean of the waits in a table, each one that is not None counted once."""
    waits = tuple([wait for wait in table if wait is not None])
    return over(sum_up(waits), (len(waits), 1))


def mean_wait(clock, deal):
    """The mean of the waits for the moves of the reach."""
    return mean_of(wait_table(clock, deal))


def return_wait(clock, deal):
    """The mean of the least number of deals, from 1 on, after which the idle move comes: the size of the reach."""
    need(is_plain(clock, deal), "deal")
    return size_of_part(reach_of(clock, moves_of(clock, deal)))
