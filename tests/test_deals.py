"""Kinds of deals, deals made, weighed and added."""

import unittest
from fractions import Fraction

from calls import some_deals, some_move_sets
from evenlater.clockparts import part_moves, parts_of
from evenlater.dealclasses import Deal
from evenlater.dealing import dealt_again
from evenlater.dealkinds import is_deal, is_plain
from evenlater.dealmaking import deal_on, even_deal, even_on, idle_deal, settled, single_deal
from evenlater.dealsums import added, scaled, taken
from evenlater.weighing import moves_of, square_sum, total_of, weight_at
from samples import CLOCKS, FLIP, JUNK, POINT, SIX, SLIPS, deal_for, dice, drawn_deal, fractions, moves, size


def pair(number):
    return number.numerator, number.denominator


class DealKinds(unittest.TestCase):
    def test_deals(self):
        for clock in CLOCKS:
            for deal in some_deals(clock):
                self.assertIs(is_deal(clock, deal), True)
                self.assertIs(is_deal(clock=clock, thing=deal), True)
        long = dealt_again(SIX, (10 ** 22 + 1, (10 ** 22, 1, 2, 3, 4, 5)), 40)
        self.assertGreater(len(str(long[0])), 800)
        self.assertIs(is_deal(SIX, long), True)

    def test_no_deals(self):
        bad = [*JUNK, [1, (1, 2, 0, 1, 2, 0)], (1, [1, 2, 0, 1, 2, 0]), (1, (1, 2, 0, 1, 2)), (1, ()), (1,),
               (1, (1, 2, 0, 1, 2, 0, 0)), (2, (2, 4, 0, 2, 4, 0)), (2, (0,) * 6), (0, (1,) * 6), (-1, (1,) * 6),
               (True, (1,) * 6), (1, (True, 0, 0, 0, 0, 0)), (1, (1, 2, False, 1, 2, 0)), (1, (1,) * 5 + (None,)),
               (1, (1,) * 6, 0), ("1", (1,) * 6), Deal(SIX, SLIPS)]
        for thing in bad:
            self.assertIs(is_deal(SIX, thing), False)
            self.assertIs(is_plain(SIX, thing), False)

    def test_plain(self):
        told = [is_plain(SIX, SLIPS), is_plain(SIX, (1, (0,) * 6)), is_plain(SIX, (1, (1, -1, 0, 0, 0, 0))),
                is_plain(SIX, (7, (0, 0, 0, 0, 0, 1))), is_plain(SIX, (1, (-1,) * 6)), is_plain(POINT, (3, (2,)))]
        self.assertEqual(told, [True, False, False, True, False, True])


class DealMaking(unittest.TestCase):
    def test_settled(self):
        rng = dice(9)
        for clock in CLOCKS:
            for _ in range(8):
                bottom = rng.choice((1, -1, 2, -6, 12, 10 ** 29))
                weights = tuple(rng.randint(-6, 6) * rng.choice((1, 2, 6)) for _ in range(size(clock)))
                plain = deal_for([Fraction(weight, bottom) for weight in weights])
                self.assertEqual(settled(clock, bottom, weights), plain)
                self.assertIs(is_deal(clock, plain), True)
            self.assertEqual(settled(clock, -7, (0,) * size(clock)), (1, (0,) * size(clock)))

    def test_idle_deal(self):
        for clock in CLOCKS:
            self.assertEqual(idle_deal(clock), (1, (1,) + (0,) * (size(clock) - 1)))

    def test_deal_on(self):
        for clock in CLOCKS:
            for some in [(), *some_move_sets(clock)]:
                self.assertEqual(deal_on(clock, some), (1, tuple(int(move in some) for move in moves(clock))))

    def test_even_deals(self):
        for clock in CLOCKS:
            for total in [(0, 1), (1, 1), (-3, 1), (5, 6), (size(clock), 1), (1, 10 ** 29)]:
                even = even_deal(clock, total)
                self.assertEqual(even, deal_for([Fraction(*total) / size(clock)] * size(clock)))
                self.assertEqual(total_of(clock, even), total)
            for part in parts_of(clock):
                some = part_moves(clock, part)
                weights = tuple(int(move in some) for move in moves(clock))
                self.assertEqual(even_on(clock, part), (len(some), weights))

    def test_single_deal(self):
        for clock in CLOCKS:
            for k, move in enumerate(moves(clock)):
                for weight in [(1, 1), (0, 1), (-3, 4)]:
                    numbers = [Fraction(0)] * size(clock)
                    numbers[k] = Fraction(*weight)
                    self.assertEqual(single_deal(clock, move, weight), deal_for(numbers))


class Weighing(unittest.TestCase):
    def test_weights_and_totals(self):
        for clock in CLOCKS:
            for deal in some_deals(clock):
                numbers = fractions(deal)
                self.assertEqual(total_of(clock, deal), pair(sum(numbers)))
                self.assertEqual(square_sum(clock, deal), pair(sum(number * number for number in numbers)))
                some = tuple(sorted(move for move, number in zip(moves(clock), numbers) if number))
                self.assertEqual(moves_of(clock, deal), some)
                for move, number in zip(moves(clock), numbers):
                    self.assertEqual(weight_at(clock, deal, move), pair(number))

    def test_zero(self):
        zero = (1, (0,) * 6)
        self.assertEqual([total_of(SIX, zero), moves_of(SIX, zero), square_sum(SIX, zero)], [(0, 1), (), (0, 1)])


class Sums(unittest.TestCase):
    def test_sums(self):
        rng = dice(10)
        for clock in CLOCKS:
            for deal in some_deals(clock):
                other = drawn_deal(clock, rng)
                left, right = fractions(deal), fractions(other)
                self.assertEqual(added(clock, deal, other), deal_for([a + b for a, b in zip(left, right)]))
                self.assertEqual(taken(clock, deal, other), deal_for([a - b for a, b in zip(left, right)]))
                self.assertEqual(taken(clock, deal, deal), (1, (0,) * size(clock)))
                for quotient in [(0, 1), (1, 1), (-1, 1), (6, 35), (10 ** 29, 7)]:
                    told = deal_for([number * Fraction(*quotient) for number in left])
                    self.assertEqual(scaled(clock, deal, quotient), told)

    def test_common_divisors_go(self):
        half = (2, (1, 0, 0, 1, 0, 0))
        self.assertEqual([added(SIX, half, half), taken(SIX, FLIP, half)], [FLIP, half])


if __name__ == "__main__":
    unittest.main()
