"""Papers that show after how many deals a deal comes out even, or that it never does."""

from evenlater.coreclocks import every_move, number_in
from evenlater.dealing import dealt_again
from evenlater.dealkinds import is_deal
from evenlater.errors import InvalidPaper
from evenlater.evens import even_after, is_even_by
from evenlater.kinds import is_from_to, is_move_row, is_pair, is_triple
from evenlater.refusals import need
from evenlater.sizes import last_edge

EVEN = "even"
NEVER = "never"


def _uneven_pair(clock, deal):
    """The first move, and the first one of another weight than it."""
    moves = every_move(clock)
    others = [move for move, weight in zip(moves, deal[1]) if weight != deal[1][0]]
    return moves[0], others[0]


def even_paper(clock, deal):
    """What lets_even accepts for the deal."""
    many = even_after(clock, deal)
    if many == 1:
        return EVEN, many, ()
    if many is None:
        return NEVER, _uneven_pair(clock, dealt_again(clock, deal, last_edge(clock)))
    return EVEN, many, _uneven_pair(clock, dealt_again(clock, deal, many - 1))


def _is_unlike_pair(clock, thing):
    """Whether thing is a pair of two unlike moves, that of the lesser number ahead."""
    if not (is_pair(thing) and is_move_row(clock, thing)):
        return False
    return number_in(clock, thing[0]) < number_in(clock, thing[1])


def _check_pair(clock, deal, many, pair):
    """Whether pair is one of two moves with unlike weights in the power to many."""
    if not _is_unlike_pair(clock, pair):
        raise InvalidPaper("pair", -1)
    power = dealt_again(clock, deal, many)
    if power[1][number_in(clock, pair[0])] == power[1][number_in(clock, pair[1])]:
        raise InvalidPaper("alike", -1)


def lets_even(clock, deal, thing):
    """Whether thing shows when the deal comes out even: the number, None for never, or InvalidPaper."""
    need(is_deal(clock, deal), "deal")
    if is_pair(thing) and thing[0] == NEVER:
        _check_pair(clock, deal, last_edge(clock), thing[1])
        return None
    if not (is_triple(thing) and thing[0] == EVEN):
        raise InvalidPaper("shape", -1)
    many, pair = thing[1:]
    if not is_from_to(many, 1, last_edge(clock)):
        raise InvalidPaper("many", -1)
    if many > 1:
        _check_pair(clock, deal, many - 1, pair)
    elif pair != ():
        raise InvalidPaper("pair", -1)
    if not is_even_by(clock, deal, many):
        raise InvalidPaper("uneven", -1)
    return many
