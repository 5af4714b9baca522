"""How many moves and turns a clock has, and its edges."""

from evenlater.coreclocks import edge_in, size_in, turns_in
from evenlater.corenumbers import primes_in
from evenlater.kinds import is_divisor, is_integer
from evenlater.refusals import need


def moves_many(clock):
    """n."""
    return size_in(clock)


def turns_many(clock):
    """d."""
    return turns_in(clock)


def does_move(clock, mover, prime):
    """Whether mover, one of the clock's, moves prime, one of the beats'."""
    roots = [root for known, root in clock[1] if known == mover]
    need(is_integer(mover) and len(roots) == 1, "mover")
    need(is_integer(prime) and prime in primes_in(clock[0]), "prime")
    return roots[0] % prime != 1


def edge_of(clock, a):
    """The edge of a divisor a of the beats."""
    need(is_divisor(a, clock[0]), "a")
    return edge_in(clock, a)


def last_edge(clock):
    """The edge of the beats."""
    return edge_in(clock, clock[0])
