"""Papers that show the home and the period of a set of moves."""

from evenlater.coming import come_after
from evenlater.coreclocks import coset_in, size_in, size_of_part
from evenlater.errors import InvalidPaper
from evenlater.homes import home_of, period_of, reach_of, settles_after
from evenlater.kinds import is_from_to, is_integer, is_moves, is_part
from evenlater.refusals import need

HOME = "home"


def home_paper(clock, moves):
    """What lets_home accepts for the moves."""
    return HOME, settles_after(clock, moves), home_of(clock, moves), period_of(clock, moves)


def _check_form(clock, thing):
    if not (isinstance(thing, tuple) and len(thing) == 4 and thing[0] == HOME):
        raise InvalidPaper("shape", -1)
    if not is_from_to(thing[1], 1, size_in(clock)):
        raise InvalidPaper("many", 1)
    if not is_part(clock, thing[2]):
        raise InvalidPaper("part", 2)
    if not (is_integer(thing[3]) and thing[3] >= 1):
        raise InvalidPaper("period", 3)


def lets_home(clock, moves, thing):
    """Whether thing shows the home of the moves: the period, or InvalidPaper."""
    need(is_moves(clock, moves), "moves")
    _check_form(clock, thing)
    many, part, period = thing[1:]
    settled = come_after(clock, moves, many)
    if len(come_after(clock, moves, many + 1)) > len(settled):
        raise InvalidPaper("grows", 1)
    if many > 1 and len(come_after(clock, moves, many - 1)) == len(settled):
        raise InvalidPaper("stays", 1)
    if coset_in(clock, part, settled[0]) != settled:
        raise InvalidPaper("coset", 2)
    if period * size_of_part(part) != size_of_part(reach_of(clock, moves)):
        raise InvalidPaper("round", 3)
    return period
