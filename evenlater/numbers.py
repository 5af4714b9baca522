"""Powers, divisors and primes of whole numbers."""

from math import gcd

from evenlater.corenumbers import divisors_in, has_no_square, power_of, primes_in, units_in
from evenlater.kinds import is_from_to, is_integer, is_number
from evenlater.refusals import need

MOST = 10000


def power(base, many):
    """base to the power many."""
    need(is_integer(base), "base")
    need(is_number(many), "many")
    return power_of(base, many)


def common_of(one, other):
    """The greatest common divisor of two integers, 0 if both are 0."""
    need(is_integer(one), "one")
    need(is_integer(other), "other")
    return gcd(one, other)


def primes_of(number):
    """The set of the primes of number, from 1 to ten thousand."""
    need(is_from_to(number, 1, MOST), "number")
    return primes_in(number)


def divisors_of(number):
    """The set of the divisors of number, from 1 to ten thousand."""
    need(is_from_to(number, 1, MOST), "number")
    return divisors_in(number)


def units_many(number):
    """phi(number), for a number from 1 to ten thousand."""
    need(is_from_to(number, 1, MOST), "number")
    return units_in(number)


def is_square_free(number):
    """Whether no prime divides number, from 1 to ten thousand, twice."""
    need(is_from_to(number, 1, MOST), "number")
    return has_no_square(number)
