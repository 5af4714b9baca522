"""Dealing, mirrors, turning, and what is told of them."""

import unittest

from calls import some_deals
from evenlater.classes import classes_of
from evenlater.clockparts import is_kept, parts_of
from evenlater.dealing import dealt, dealt_again, dealt_row
from evenlater.dealmaking import deal_on, even_deal, even_on, idle_deal, single_deal
from evenlater.dealsums import added, scaled, taken
from evenlater.mirrors import mirrored, turned_deal
from evenlater.quotients import times
from evenlater.signs import can_exchange, is_alike, is_even, is_own_mirror, is_own_square
from evenlater.weighing import square_sum, total_of, weight_at
from samples import CLOCKS, FLAT, FLIP, POINT, SIX, SLIPS, SMALL_CLOCKS, back, dice, drawn_deal, drawn_move, moves
from samples import plain_dealt, size, turned


class Dealing(unittest.TestCase):
    def drawn(self, many, rng=dice(11)):
        for clock in CLOCKS:
            yield clock, *[drawn_deal(clock, rng) for _ in range(many)]

    def test_dealt(self):
        for clock in SMALL_CLOCKS:
            some = some_deals(clock)
            for one, other in zip(some, some[1:] + some[:1]):
                self.assertEqual(dealt(clock, one, other), plain_dealt(clock, one, other))
        for clock, one, other in self.drawn(2):
            self.assertEqual(dealt(clock, one, other), plain_dealt(clock, one, other))

    def test_idle_and_zero(self):
        for clock, one in self.drawn(1):
            zero, idle = (1, (0,) * size(clock)), idle_deal(clock)
            self.assertEqual([dealt(clock, one, idle), dealt(clock, idle, one)], [one, one])
            self.assertEqual([dealt(clock, one, zero), dealt(clock, zero, one)], [zero, zero])

    def test_rows(self):
        for clock, one, other, third in self.drawn(3):
            self.assertEqual(dealt_row(clock, ()), idle_deal(clock))
            self.assertEqual(dealt_row(clock, (one,)), one)
            plain = plain_dealt(clock, plain_dealt(clock, one, other), third)
            self.assertEqual(dealt_row(clock, (one, other, third)), plain)
        self.assertEqual(dealt_row(SIX, (FLIP,) * 40), (1, (2 ** 39, 0, 0, 2 ** 39, 0, 0)))

    def test_powers(self):
        for clock, one in self.drawn(1):
            power = idle_deal(clock)
            for many in range(6):
                self.assertEqual(dealt_again(clock, one, many), power)
                power = dealt(clock, power, one)
        self.assertEqual(dealt_again(SIX, FLIP, 40), dealt_row(SIX, (FLIP,) * 40))
        long = (10 ** 22 + 1, (10 ** 22, 1, 2, 3, 4, 5))
        self.assertEqual(dealt_again(SIX, long, 40), dealt_row(SIX, (long,) * 40))
        self.assertEqual(dealt_again(POINT, (7, (3,)), 40), (7 ** 40, (3 ** 40,)))
        self.assertEqual(dealt_again(SIX, (1, (0,) * 6), 0), idle_deal(SIX))

    def test_long_weights_of_the_package_may_be_passed_in_again(self):
        long = dealt_again(SIX, (10 ** 22 + 1, (10 ** 22, 1, 2, 3, 4, 5)), 20)
        self.assertEqual(dealt(SIX, long, FLIP), plain_dealt(SIX, long, FLIP))

    def test_associative_and_shared_out(self):
        for clock, one, other, third in self.drawn(3):
            left = dealt(clock, dealt(clock, one, other), third)
            self.assertEqual(left, dealt(clock, one, dealt(clock, other, third)))
            left = dealt(clock, one, added(clock, other, third))
            self.assertEqual(left, added(clock, dealt(clock, one, other), dealt(clock, one, third)))
            left = dealt(clock, taken(clock, one, other), third)
            self.assertEqual(left, taken(clock, dealt(clock, one, third), dealt(clock, other, third)))

    def test_totals_are_multiplied(self):
        for clock, one, other in self.drawn(2):
            both = total_of(clock, dealt(clock, one, other))
            self.assertEqual(both, times(total_of(clock, one), total_of(clock, other)))

    def test_times_an_even_one_is_even(self):
        for clock, one in self.drawn(1):
            even = even_deal(clock, (-2, 3))
            self.assertTrue(is_even(clock, dealt(clock, one, even)) and is_even(clock, dealt(clock, even, one)))


class Mirrors(unittest.TestCase):
    drawn = Dealing.drawn

    def test_mirror(self):
        for clock, one in self.drawn(1):
            mirror = mirrored(clock, one)
            for move in moves(clock):
                self.assertEqual(weight_at(clock, mirror, move), weight_at(clock, one, back(clock, move)))
            self.assertEqual(mirrored(clock, mirror), one)

    def test_turned(self):
        rng = dice(12)
        for clock, one in self.drawn(1):
            by = drawn_move(clock, rng)
            told = turned_deal(clock, one, by)
            for move in moves(clock):
                self.assertEqual(weight_at(clock, told, turned(clock, move, by)), weight_at(clock, one, move))
            ahead, behind = (single_deal(clock, move, (1, 1)) for move in (back(clock, by), by))
            self.assertEqual(told, dealt_row(clock, (ahead, one, behind)))

    def test_turning_keeps_sums_and_products(self):
        rng = dice(13)
        for clock, one, other in self.drawn(2):
            by = drawn_move(clock, rng)
            left, right = turned_deal(clock, one, by), turned_deal(clock, other, by)
            self.assertEqual(turned_deal(clock, added(clock, one, other), by), added(clock, left, right))
            self.assertEqual(turned_deal(clock, dealt(clock, one, other), by), dealt(clock, left, right))

    def test_mirror_of_a_product(self):
        for clock, one, other in self.drawn(2):
            left = mirrored(clock, dealt(clock, one, other))
            self.assertEqual(left, dealt(clock, mirrored(clock, other), mirrored(clock, one)))

    def test_sum_of_squares_is_the_weight_at_idle_times_the_mirror(self):
        for clock, one in self.drawn(1):
            both = dealt(clock, one, mirrored(clock, one))
            self.assertEqual(square_sum(clock, one), weight_at(clock, both, (0, 0)))


class Signs(unittest.TestCase):
    drawn = Dealing.drawn

    def test_even(self):
        told = [is_even(SIX, SLIPS), is_even(SIX, (7, (3,) * 6)), is_even(SIX, (1, (0,) * 6)),
                is_even(POINT, (3, (-2,))), is_even(SIX, (1, (1, 1, 1, 1, 1, 0)))]
        self.assertEqual(told, [False, True, True, True, False])

    def test_own_mirrors_and_squares_of_parts(self):
        for clock in SMALL_CLOCKS:
            for part in parts_of(clock):
                even = even_on(clock, part)
                self.assertTrue(is_own_mirror(clock, even) and is_own_square(clock, even))
                kept = all(can_exchange(clock, even, single_deal(clock, move, (1, 1))) for move in moves(clock))
                self.assertIs(is_kept(clock, part), kept)
        told = [is_own_mirror(SIX, SLIPS), is_own_square(SIX, FLIP), is_own_square(SIX, (1, (0,) * 6)),
                is_own_square(POINT, (1, (1,))), is_own_square(POINT, (1, (2,))),
                is_own_mirror(FLAT, (1, (0, 1, 2, 3, 2, 1)))]
        self.assertEqual(told, [False, False, True, True, False, True])

    def test_alike_exactly_if_exchanged_with_every_deal(self):
        rng = dice(14)
        for clock in SMALL_CLOCKS:
            for deal in [*some_deals(clock), self.alike(clock, rng)]:
                singles = [single_deal(clock, move, (1, 1)) for move in moves(clock)]
                every = all(can_exchange(clock, deal, one) for one in singles)
                self.assertIs(is_alike(clock, deal), every)

    def alike(self, clock, rng):
        deal = (1, (0,) * size(clock))
        for some in classes_of(clock):
            self.assertIs(is_alike(clock, deal_on(clock, some)), True)
            deal = added(clock, deal, scaled(clock, deal_on(clock, some), (rng.choice((3, 5)), 1)))
        return deal

    def test_can_exchange(self):
        for clock, one, other in self.drawn(2):
            same = plain_dealt(clock, one, other) == plain_dealt(clock, other, one)
            self.assertIs(can_exchange(clock, one, other), same)
            self.assertIs(can_exchange(clock, one, dealt(clock, one, one)), True)
        self.assertIs(can_exchange(FLAT, (1, (1, 2, 3, 4, 5, 6)), (1, (0, 1, 0, 5, 0, 0))), True)


if __name__ == "__main__":
    unittest.main()
