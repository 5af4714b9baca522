"""Whole numbers and what divides them; callers have checked the values."""

from math import gcd, isqrt


def is_prime(number):
    """Whether a number is a prime."""
    return number > 1 and all([number % k != 0 for k in range(2, isqrt(number) + 1)])


def divisors_in(number):
    """All divisors, ascending."""
    return tuple([k for k in range(1, number + 1) if number % k == 0])


def primes_in(number):
    """All primes that divide the number, ascending."""
    return tuple([k for k in divisors_in(number) if is_prime(k)])


def has_no_square(number):
    """Whether no prime divides the number twice."""
    return all([number % (prime * prime) != 0 for prime in primes_in(number)])


def units_in(number):
    """phi(number)."""
    units = number
    for prime in primes_in(number):
        units = units // prime * (prime - 1)
    return units


def multiplied(factors):
    """The product, 1 for none."""
    product = 1
    for factor in factors:
        product = product * factor
    return product


def power_of(base, many):
    """base to the power many, by squaring."""
    result, square, rest = 1, base, many
    while rest > 0:
        if rest % 2 == 1:
            result = result * square
        rest = rest // 2
        if rest > 0:
            square = square * square
    return result


def power_modulo(base, many, modulus):
    """base to the power many, modulo modulus, without ever growing long."""
    result, square, rest = 1 % modulus, base % modulus, many
    while rest > 0:
        if rest % 2 == 1:
            result = result * square % modulus
        square = square * square % modulus
        rest = rest // 2
    return result


def common_in(bottom, tops):
    """The greatest common divisor of bottom and all of tops."""
    common = abs(bottom)
    for top in tops:
        common = gcd(common, top)
    return common


def lowest_row(bottom, tops):
    """The pair (bottom, tops) that stands for the same fractions, in lowest terms; bottom is not 0."""
    common = common_in(bottom, tops)
    if bottom < 0:
        common = -common
    return bottom // common, tuple([top // common for top in tops])


def lowest(top, bottom):
    """The quotient for top / bottom; bottom is not 0."""
    below, tops = lowest_row(bottom, (top,))
    return tops[0], below
