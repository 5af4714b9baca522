"""Papers that show whether the powers of a plain deal come near to even."""

from evenlater.coming import come_after
from evenlater.coreclocks import back_in, has_move, joined, moves_in_part, size_in, size_of_part, turned_in
from evenlater.dealkinds import is_plain
from evenlater.errors import InvalidPaper
from evenlater.homes import home_of, settles_after
from evenlater.kinds import is_from_to, is_move, is_pair, is_part, is_triple
from evenlater.nearing import comes_near
from evenlater.refusals import need
from evenlater.weighing import moves_of

NEAR = "near"
HELD = "held"
MOST = 100


def near_paper(clock, deal):
    """What lets_near accepts for the plain deal."""
    near = comes_near(clock, deal)
    moves = moves_of(clock, deal)
    if near:
        return NEAR, settles_after(clock, moves)
    return HELD, home_of(clock, moves), moves[0]


def _check_near(clock, moves, many):
    if not is_from_to(many, 1, MOST):
        raise InvalidPaper("many", 1)
    if len(come_after(clock, moves, many)) < size_in(clock):
        raise InvalidPaper("lacks", 1)


def _is_kept_by(clock, part, by):
    return all([has_move(clock, part, turned_in(clock, move, by)) for move in moves_in_part(clock, part)])


def _check_held(clock, moves, part, move):
    if not is_part(clock, part) or size_of_part(part) == size_in(clock):
        raise InvalidPaper("part", 1)
    if not (is_move(clock, move) and move in moves):
        raise InvalidPaper("move", 2)
    back = back_in(clock, move)
    for known in moves:
        if not _is_kept_by(clock, part, known):
            raise InvalidPaper("turned", known)
        if not has_move(clock, part, joined(clock, known, back)):
            raise InvalidPaper("coset", known)


def lets_near(clock, deal, thing):
    """Whether thing shows if the powers of the plain deal come near to even: the word ahead, or InvalidPaper."""
    need(is_plain(clock, deal), "deal")
    moves = moves_of(clock, deal)
    if is_pair(thing) and thing[0] == NEAR:
        _check_near(clock, moves, thing[1])
        return NEAR
    if not (is_triple(thing) and thing[0] == HELD):
        raise InvalidPaper("shape", -1)
    _check_held(clock, moves, thing[1], thing[2])
    return HELD
