"""The ones of pieces, and what a deal is at a piece."""

import unittest
from fractions import Fraction
from itertools import combinations
from math import prod

from calls import idle_of, pieces, some_deals, zero_of
from evenlater.classes import classes_of
from evenlater.clockparts import kept_parts, part_moves
from evenlater.dealfolds import folded_deal
from evenlater.dealing import dealt
from evenlater.dealmaking import even_on
from evenlater.dealsums import added
from evenlater.errors import NotUsable
from evenlater.folding import folded_clock
from evenlater.numbers import primes_of
from evenlater.ones import at_piece, one_of, ones_in, ones_of, root_sum
from evenlater.partranks import quiet_pieces
from evenlater.pieces import pieces_of
from evenlater.signs import is_alike, is_own_mirror, is_own_square
from samples import CLOCKS, PRIMES, SIX, SLIPS, SMALL_CLOCKS, all_clocks, deal_for, dice, drawn_deal, edge, moves, size
from samples import turns


def plain_sum(number, integer):
    return prod(q - 1 if integer % q == 0 else -1 for q in PRIMES if number % q == 0)


def plain_one(clock, piece):
    """The one of a piece, from the definition."""
    a, b = piece
    e = edge(clock, a)
    share = Fraction(e, clock[0] * turns(clock))
    return deal_for([share * plain_sum(a, x) * plain_sum(b, t) if t % e == 0 else Fraction(0) for x, t in moves(clock)])


def sum_of(clock, deals):
    total = zero_of(clock)
    for deal in deals:
        total = added(clock, total, deal)
    return total


class RootSums(unittest.TestCase):
    def test_sums(self):
        for number in (1, 2, 3, 6, 30, 53, 58):
            for integer in (*range(-61, 62), 10 ** 59, -(10 ** 59)):
                self.assertEqual(root_sum(number, integer), plain_sum(number, integer))
        self.assertEqual([root_sum(1, 0), root_sum(9973, 9973), root_sum(9973, -1), root_sum(2310, 0)],
                         [1, 9972, -1, 480])
        self.assertEqual([root_sum(number=15, integer=-3), root_sum(9998, 3)], [-2, prod(-1 for _ in primes_of(9998))])

    def test_a_sum_over_a_round_is_0(self):
        for number in (2, 6, 35, 105):
            self.assertEqual(sum(root_sum(number, k) for k in range(number)), 0)


class Ones(unittest.TestCase):
    def test_each_one_of_every_clock(self):
        for clock in all_clocks():
            self.assertEqual([one_of(clock, piece) for piece in pieces(clock)],
                             [plain_one(clock, piece) for piece in pieces(clock)])

    def test_own_squares_that_meet_no_other_and_add_up_to_idle(self):
        for clock in CLOCKS:
            ones = [one_of(clock, piece) for piece in pieces_of(clock)]
            for one in ones:
                self.assertTrue(is_own_square(clock, one) and is_own_mirror(clock, one) and is_alike(clock, one))
            for one, other in combinations(ones, 2):
                self.assertEqual(dealt(clock, one, other), zero_of(clock))
            self.assertEqual(sum_of(clock, ones), idle_of(clock))
            self.assertEqual(one_of(clock, (1, 1)), (size(clock), (1,) * size(clock)))

    def test_each_can_be_exchanged_with_every_deal(self):
        rng = dice(31)
        for clock in CLOCKS:
            deal = drawn_deal(clock, rng)
            for piece in pieces_of(clock):
                one = one_of(clock, piece)
                self.assertEqual(at_piece(clock, piece, deal), dealt(clock, deal, one))
                self.assertEqual(at_piece(clock, piece, deal), dealt(clock, one, deal))

    def test_a_deal_is_the_sum_of_what_it_is_at_the_pieces(self):
        for clock in CLOCKS:
            for deal in some_deals(clock)[:6]:
                self.assertEqual(sum_of(clock, [at_piece(clock, piece, deal) for piece in pieces_of(clock)]), deal)

    def test_long_weights(self):
        deal = (10 ** 29 + 1, (10 ** 29, 7, -(10 ** 29), 1, 0, 3))
        for _ in range(4):
            deal = dealt(SIX, deal, deal)
        total = sum_of(SIX, [at_piece(SIX, piece, deal) for piece in pieces_of(SIX)])
        self.assertEqual(total, deal)

    def test_sets_of_pieces(self):
        for clock in CLOCKS:
            every = pieces_of(clock)
            for many in range(len(every) + 1):
                for some in list(combinations(every, many))[:12]:
                    both = ones_of(clock, some)
                    self.assertEqual(both, sum_of(clock, [plain_one(clock, piece) for piece in some]))
                    self.assertEqual(ones_in(clock, both), some)
            self.assertEqual([ones_of(clock, ()), ones_of(clock, every)], [zero_of(clock), idle_of(clock)])

    def test_deals_that_are_no_ones_added(self):
        rng = dice(32)
        for clock in SMALL_CLOCKS:
            deals = [drawn_deal(clock, rng, 2) for _ in range(5)]
            deals += [deal_for([Fraction(2 * weight, bottom) for weight in weights])
                      for bottom, weights in (one_of(clock, piece) for piece in pieces_of(clock))]
            for deal in deals:
                if is_own_square(clock, deal) and is_alike(clock, deal):
                    self.assertEqual(ones_of(clock, ones_in(clock, deal)), deal)
                else:
                    self.assert_no_ones(clock, deal)
        # an own square that cannot be exchanged with every deal
        self.assert_no_ones(SIX, (2, (1, 0, 0, 1, 0, 0)))
        self.assert_no_ones(SIX, SLIPS)

    def assert_no_ones(self, clock, deal):
        with self.assertRaises(NotUsable) as caught:
            ones_in(clock, deal)
        self.assertEqual((caught.exception.word, caught.exception.at), ("deal", -1))

    def test_kept_parts_and_the_pieces_of_the_folded_clock(self):
        for clock in CLOCKS:
            for part in kept_parts(clock):
                loud = tuple(piece for piece in pieces_of(clock) if piece not in quiet_pieces(clock, part))
                folded = folded_clock(clock, part)
                self.assertEqual(loud, pieces_of(folded))
                self.assertEqual(ones_of(clock, loud), even_on(clock, part))
                self.assertEqual(folded_deal(clock, part, ones_of(clock, loud)), idle_of(folded))
                self.assertEqual(len(part_moves(clock, part)) * size(folded), size(clock))

    def test_as_many_ones_as_kinds_of_moves_allow(self):
        for clock in SMALL_CLOCKS:
            self.assertLessEqual(len(pieces_of(clock)), len(classes_of(clock)))
        self.assertEqual(one_of(SIX, (3, 1)), (3, (2, -1, -1, 0, 0, 0)))


if __name__ == "__main__":
    unittest.main()
