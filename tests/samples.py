"""Clocks, values and plain reckonings from the definitions, for the tests to compare with."""

import random
from fractions import Fraction
from functools import lru_cache
from itertools import combinations
from math import gcd, lcm, prod

SIX, FLAT, SEVEN, LOOSE = (3, ((2, 2),)), (6, ()), (7, ((3, 2),)), (3, ((2, 1),))
SLIPS = (1, (1, 2, 0, 1, 2, 0))
FLIP = (1, (1, 0, 0, 1, 0, 0))
POINT = (1, ())
PRIMES = [p for p in range(2, 60) if all(p % k for k in range(2, p))]


def nested(depth, wrap):
    thing = 0
    for _ in range(depth):
        thing = wrap([thing])
    return thing


DEEP_TUPLE = nested(30, tuple)
DEEP_LIST = nested(30, list)
# values that are no integer, quotient, move, piece, part, deal or text
JUNK = [None, True, False, [], [0, 0], (None,), ("0", 0), (0, [0]), (True, False), 10 ** 59,
        -(10 ** 59), (1,) * 5000, DEEP_TUPLE, DEEP_LIST]


def is_square_free(number):
    return all(number % (k * k) for k in range(2, number + 1))


def roots_for(beats, mover):
    return [r for r in range(1, beats + 1) if (r ** mover - 1) % beats == 0]


def all_clocks():
    """Every clock there is, from the definition."""
    clocks = []
    for beats in filter(is_square_free, range(1, 61)):
        free = [p for p in PRIMES if beats % p]
        for many in range(4):
            for movers in combinations(free, many):
                if beats * prod(movers) <= 60:
                    clocks.extend(with_roots(beats, movers))
    return clocks


def with_roots(beats, movers):
    rows = [()]
    for mover in movers:
        rows = [row + ((mover, root),) for row in rows for root in roots_for(beats, mover)]
    return [(beats, row) for row in rows]


# one beat, no movers, movers that move nothing, some of the primes, all of them, and the largest ones
CLOCKS = [POINT, (1, ((2, 1),)), (1, ((2, 1), (3, 1), (5, 1))), (2, ()), SIX, FLAT, SEVEN, LOOSE, (15, ((2, 4),)),
          (15, ((2, 14),)), (7, ((2, 6), (3, 2))), (7, ((2, 1), (3, 4))), (10, ((3, 1),)), (14, ((3, 9),)),
          (5, ((2, 4), (3, 1))), (1, ((59, 1),)), (11, ((5, 3),)), (30, ()), (29, ((2, 28),)), (19, ((3, 7),))]
SMALL_CLOCKS = [clock for clock in CLOCKS if clock[0] * prod(p for p, _ in clock[1]) <= 21]


def turns(clock):
    return prod(mover for mover, _ in clock[1])


def size(clock):
    return clock[0] * turns(clock)


def moves(clock):
    return [(x, t) for t in range(turns(clock)) for x in range(clock[0])]


def factor(clock, turn):
    return prod(root for _, root in clock[1]) ** turn % clock[0]


def then(clock, one, other):
    return ((factor(clock, other[1]) * one[0] + other[0]) % clock[0], (one[1] + other[1]) % turns(clock))


def back(clock, move):
    return next(other for other in moves(clock) if then(clock, move, other) == (0, 0))


def turned(clock, move, by):
    return then(clock, then(clock, back(clock, by), move), by)


def closed(clock, some):
    """The least part with some moves, from the definition."""
    found = {(0, 0), *some}
    while True:
        more = found | {then(clock, g, h) for g in found for h in found}
        if more == found:
            return tuple(sorted(found))
        found = more


def edge(clock, a):
    return prod(mover for mover, root in clock[1] if any(root % q != 1 for q in PRIMES if a % q == 0))


def divisors(number):
    return [k for k in range(1, number + 1) if number % k == 0]


def dice(seed):
    return random.Random(seed)


def drawn_move(clock, rng):
    return rng.randrange(clock[0]), rng.randrange(turns(clock))


def drawn_deal(clock, rng, most=9):
    """A deal in lowest terms, with weights below and above 0."""
    while True:
        bottom = rng.randint(1, most)
        weights = tuple(rng.randint(-most, most) for _ in range(size(clock)))
        if gcd(bottom, *weights) == 1:
            return bottom, weights


def fractions(deal):
    return [Fraction(weight, deal[0]) for weight in deal[1]]


def deal_for(numbers):
    """The deal with these weights."""
    bottom = lcm(*[number.denominator for number in numbers])
    return bottom, tuple(int(number * bottom) for number in numbers)


def plain_dealt(clock, one, other):
    """one * other, from the definition."""
    every = moves(clock)
    place = {move: k for k, move in enumerate(every)}
    result = [Fraction(0)] * size(clock)
    left, right = fractions(one), fractions(other)
    for g in every:
        for k in every:
            result[place[then(clock, g, k)]] += left[place[g]] * right[place[k]]
    return deal_for(result)


@lru_cache
def then_table(clock):
    """For each move, by number, the numbers of this move then each move."""
    every = moves(clock)
    place = {move: k for k, move in enumerate(every)}
    return [[place[then(clock, g, k)] for k in every] for g in every]


def own_dealt(clock, one, other):
    """one * other, from the definition, in whole numbers."""
    weights = [0] * size(clock)
    for left, row in zip(one[1], then_table(clock)):
        if left:
            for right, at in zip(other[1], row):
                weights[at] += left * right
    common = gcd(one[0] * other[0], *weights)
    return one[0] * other[0] // common, tuple(weight // common for weight in weights)


def quick_rank(rows):
    """The rank of rows of integers, modulo a prime so large that it divides none of their determinants by chance."""
    prime, rank = 2 ** 521 - 1, 0
    rows = [[entry % prime for entry in row] for row in rows]
    for column in range(len(rows[0]) if rows else 0):
        lead = next((row for row in rows[rank:] if row[column]), None)
        if lead is not None:
            rows.remove(lead)
            rows.insert(rank, lead)
            rank += 1
            share = pow(lead[column], -1, prime)
            for k in range(rank, len(rows)):
                if rows[k][column]:
                    times = rows[k][column] * share % prime
                    rows[k] = [(a - times * b) % prime for a, b in zip(rows[k], lead)]
    return rank
