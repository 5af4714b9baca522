"""Moves and parts of a clock; callers have checked the values."""

from evenlater.corenumbers import divisors_in, multiplied, power_modulo, primes_in


def turns_in(clock):
    """d, the number of turns."""
    return multiplied([mover for mover, _ in clock[1]])


def size_in(clock):
    """n, the number of moves."""
    return clock[0] * turns_in(clock)


def edge_in(clock, a):
    """The edge of a divisor a of the beats, which has no square, so that roots may be judged modulo a at once."""
    return multiplied([mover for mover, root in clock[1] if (root - 1) % a != 0])


def factor_in(clock, turn):
    """The factor of a turn."""
    return power_modulo(multiplied([root for _, root in clock[1]]), turn, clock[0])


def factors_in(clock):
    """The factors of all turns, in their order."""
    return [factor_in(clock, turn) for turn in range(turns_in(clock))]


def every_move(clock):
    """All moves, by their numbers."""
    turns = range(turns_in(clock))
    return tuple([(shift, turn) for turn in turns for shift in range(clock[0])])


def number_in(clock, move):
    """The number of a move."""
    return move[1] * clock[0] + move[0]


def beat_after(clock, move, beat):
    """The beat to which the move takes beat."""
    return (factor_in(clock, move[1]) * beat + move[0]) % clock[0]


def joined(clock, one, other):
    """The move one then the move other."""
    return beat_after(clock, other, one[0]), (one[1] + other[1]) % turns_in(clock)


def back_in(clock, move):
    """The move after which, or ahead of which, move leaves everything where it was."""
    turn = -move[1] % turns_in(clock)
    return -factor_in(clock, turn) * move[0] % clock[0], turn


def turned_in(clock, move, by):
    """The move turned by another one: what the back of by, then move, then by come to."""
    away = (1 - factor_in(clock, move[1])) * by[0]
    return (factor_in(clock, by[1]) * move[0] + away) % clock[0], move[1]


def class_in(clock, move):
    """All moves of the class of move, ascending; each one is move turned by a move, as turned_in has it."""
    factors, (shift, turn) = factors_in(clock), move
    aways = [(1 - factors[turn]) * beat for beat in range(clock[0])]
    shifts = sorted({(factor * shift + away) % clock[0] for factor in factors for away in aways})
    return tuple([(known, turn) for known in shifts])


def every_class(clock):
    """All classes, ascending."""
    return tuple(sorted({class_in(clock, move) for move in every_move(clock)}))


def spots_in(clock, a, f):
    """How many spots there are for the parts with this a and this f."""
    roots = [root for mover, root in clock[1] if f % mover == 0]
    primes = primes_in(clock[0] // a)
    return multiplied([prime for prime in primes if any([root % prime != 1 for root in roots])])


def every_part(clock):
    """The triples of all parts, ascending."""
    pairs = [(a, f) for a in divisors_in(clock[0]) for f in divisors_in(turns_in(clock))]
    return tuple([(a, f, spot) for a, f in pairs for spot in range(spots_in(clock, a, f))])


def size_of_part(part):
    """How many moves a part has."""
    return part[0] * part[1]


def has_move(clock, part, move):
    """Whether the move is one of the part."""
    a, f, spot = part
    shift, turn = move
    away = (1 - factor_in(clock, turn)) * spot
    return turn % (turns_in(clock) // f) == 0 and (shift - away) % (clock[0] // a) == 0


def moves_in_part(clock, part):
    """All moves of a part, ascending."""
    return tuple(sorted([move for move in every_move(clock) if has_move(clock, part, move)]))


def coset_in(clock, part, move):
    """All moves of the part, each one then move, ascending."""
    return tuple(sorted([joined(clock, ahead, move) for ahead in moves_in_part(clock, part)]))


def least_in(clock, moves):
    """The least part that has these moves; it is in each other one that has them, so the smallest."""
    parts = [part for part in every_part(clock) if all([has_move(clock, part, move) for move in moves])]
    return min(parts, key=size_of_part)


def clock_folded(clock, part):
    """The clock folded by a kept part."""
    beats = clock[0] // part[0]
    left = [(mover, root) for mover, root in clock[1] if part[1] % mover != 0]
    return beats, tuple([(mover, root % beats if beats > 1 else 1) for mover, root in left])


def move_folded(clock, part, move):
    """The move folded by a kept part."""
    return move[0] % (clock[0] // part[0]), move[1] % (turns_in(clock) // part[1])
