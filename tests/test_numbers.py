"""Numbers and quotients."""

import unittest
from fractions import Fraction
from math import gcd

from evenlater.errors import NotUsable
from evenlater.numbers import common_of, divisors_of, is_square_free, power, primes_of, units_many
from evenlater.quotients import compare, minus, over, plus, quotient_of, sum_up, times
from samples import dice


class Numbers(unittest.TestCase):
    def test_power(self):
        for base in range(-5, 6):
            for many in range(12):
                self.assertEqual(power(base, many), base ** many)
        self.assertEqual(power(0, 0), 1)
        self.assertEqual(power(10 ** 60 - 1, 0), 1)
        self.assertEqual(power(7, 1000), 7 ** 1000)
        self.assertEqual(power(-1, 1001), -1)

    def test_common_of(self):
        self.assertEqual([common_of(0, 0), common_of(0, -7), common_of(-12, -18), common_of(10 ** 40, 10 ** 30)],
                         [0, 7, 6, 10 ** 30])

    def test_one_has_no_primes(self):
        self.assertEqual([primes_of(1), divisors_of(1), units_many(1), is_square_free(1)], [(), (1,), 1, True])

    def test_against_the_definitions(self):
        for number in range(1, 400):
            divisors = tuple(k for k in range(1, number + 1) if number % k == 0)
            primes = tuple(k for k in divisors if k > 1 and all(k % j for j in range(2, k)))
            self.assertEqual(divisors_of(number), divisors)
            self.assertEqual(primes_of(number), primes)
            units = sum(1 for k in range(number) if gcd(k, number) == 1)
            self.assertEqual(units_many(number), units)
            self.assertIs(is_square_free(number), all(number % (p * p) for p in primes))

    def test_large_numbers(self):
        self.assertEqual(primes_of(10000), (2, 5))
        self.assertEqual(primes_of(9973), (9973,))
        self.assertEqual(units_many(10000), 4000)
        self.assertIs(is_square_free(9409), False)
        self.assertIs(is_square_free(9699), True)


class Quotients(unittest.TestCase):
    def pairs(self):
        rng = dice(1)
        for _ in range(300):
            most = rng.choice((5, 60, 10 ** 30))
            yield tuple(quotient_of(rng.randint(-most, most), rng.randint(1, most)) for _ in range(2))

    def same(self, quotient, number):
        self.assertEqual(quotient, (number.numerator, number.denominator))

    def test_quotient_of(self):
        self.assertEqual([quotient_of(0, -5), quotient_of(-4, -6), quotient_of(4, 6), quotient_of(-6, 3)],
                         [(0, 1), (2, 3), (2, 3), (-2, 1)])

    def test_signs(self):
        for one, other in self.pairs():
            left, right = Fraction(*one), Fraction(*other)
            self.same(plus(one, other), left + right)
            self.same(minus(one, other), left - right)
            self.same(times(one, other), left * right)
            self.assertEqual(compare(one, other), (left > right) - (left < right))
            self.assertEqual(compare(one, one), 0)
            if right:
                self.same(over(one, other), left / right)

    def test_zero_does_not_divide(self):
        with self.assertRaises(NotUsable) as caught:
            over((1, 2), (0, 1))
        self.assertEqual(caught.exception.word, "other")

    def test_sum_up(self):
        self.assertEqual([sum_up(()), sum_up(((1, 2), (1, 3), (1, 6))), sum_up(((1, 2), (-1, 2)))],
                         [(0, 1), (1, 1), (0, 1)])


if __name__ == "__main__":
    unittest.main()
