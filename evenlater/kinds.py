"""Whether any value is an integer, a clock, a move, a piece, a part and the like."""

from math import gcd

from evenlater.coreclocks import edge_in, size_in, spots_in, turns_in
from evenlater.corenumbers import has_no_square, is_prime, power_modulo

MOST_MOVES = 60


def is_integer(thing):
    """Whether thing is an int, and no bool."""
    return isinstance(thing, int) and not isinstance(thing, bool)


def is_number(thing):
    """Whether thing is an integer from 0 on."""
    return is_integer(thing) and thing >= 0


def is_below(thing, limit):
    """Whether thing is a number less than limit."""
    return is_number(thing) and thing < limit


def is_from_to(thing, least, most):
    """Whether thing is an integer from least to most."""
    return is_integer(thing) and least <= thing <= most


def is_divisor(thing, number):
    """Whether thing is a divisor of number, which is at least 1."""
    return is_from_to(thing, 1, number) and number % thing == 0


def is_pair(thing):
    """Whether thing is a tuple of two values."""
    return isinstance(thing, tuple) and len(thing) == 2


def is_triple(thing):
    """Whether thing is a tuple of three values."""
    return isinstance(thing, tuple) and len(thing) == 3


def are_integers(thing):
    """Whether thing is a tuple of integers."""
    return isinstance(thing, tuple) and all([is_integer(value) for value in thing])


def is_quotient(thing):
    """Whether thing is a quotient, in lowest terms."""
    return is_pair(thing) and are_integers(thing) and thing[1] >= 1 and gcd(thing[0], thing[1]) == 1


def mover_fault(beats, before, pair):
    """What keeps pair from being a mover of a clock, whose mover ahead is before; None for nothing."""
    if not is_pair(pair):
        return "pair"
    mover, root = pair
    if not (is_from_to(mover, 2, MOST_MOVES) and is_prime(mover) and beats % mover != 0 and mover > before):
        return "mover"
    if not (is_from_to(root, 1, beats) and power_modulo(root, mover, beats) == 1 % beats):
        return "root"
    return None


def clock_fault(thing):
    """The word and the place of what keeps thing from being a clock; None for a clock."""
    if not is_pair(thing):
        return "shape", -1
    beats, movers = thing
    if not (is_from_to(beats, 1, MOST_MOVES) and has_no_square(beats)):
        return "beats", -1
    if not isinstance(movers, tuple):
        return "movers", -1
    before = 0
    for k, pair in enumerate(movers):
        word = mover_fault(beats, before, pair)
        if word is not None:
            return word, k
        before = pair[0]
    return ("size", -1) if size_in(thing) > MOST_MOVES else None


def are_quotients(thing):
    """Whether thing is a tuple of quotients, perhaps ()."""
    return isinstance(thing, tuple) and all([is_quotient(value) for value in thing])


def is_clock(thing):
    """Whether thing is a clock."""
    return clock_fault(thing) is None


def is_move(clock, thing):
    """Whether thing is a move of the clock."""
    return is_pair(thing) and is_below(thing[0], clock[0]) and is_below(thing[1], turns_in(clock))


def is_move_row(clock, thing):
    """Whether thing is a tuple of moves of the clock, perhaps ()."""
    return isinstance(thing, tuple) and all([is_move(clock, value) for value in thing])


def _ascends(rows):
    return all([rows[k - 1] < rows[k] for k in range(1, len(rows))])


def is_move_set(clock, thing):
    """Whether thing is a set of moves of the clock, perhaps ()."""
    return is_move_row(clock, thing) and _ascends(thing)


def is_moves(clock, thing):
    """Whether thing is a nonempty set of moves of the clock."""
    return is_move_set(clock, thing) and len(thing) > 0


def is_piece(clock, thing):
    """Whether thing is a piece of the clock."""
    if not (is_pair(thing) and is_divisor(thing[0], clock[0]) and is_divisor(thing[1], turns_in(clock))):
        return False
    return gcd(edge_in(clock, thing[0]), thing[1]) == 1


def is_piece_set(clock, thing):
    """Whether thing is a set of pieces of the clock, perhaps ()."""
    return isinstance(thing, tuple) and all([is_piece(clock, value) for value in thing]) and _ascends(thing)


def is_part(clock, thing):
    """Whether thing is the triple of a part of the clock."""
    if not is_triple(thing):
        return False
    a, f, spot = thing
    if not (is_divisor(a, clock[0]) and is_divisor(f, turns_in(clock))):
        return False
    return is_below(spot, spots_in(clock, a, f))


def is_kept_part(clock, thing):
    """Whether thing is the triple of a kept part of the clock."""
    return is_part(clock, thing) and spots_in(clock, thing[0], thing[1]) == 1
