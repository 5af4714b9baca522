"""Deals as objects that tell their ranks."""

import unittest

from calls import BAD, BAD_DEALS, alike_deals, most_places, pieces, some_deals
from evenlater.dealclasses import Deal
from evenlater.exchanging import class_weights
from evenlater.pieces import pieces_of
from evenlater.rankclasses import Central, Ranked
from evenlater.ranks import free_many, ranks_of
from evenlater.weighing import weight_at
from samples import CLOCKS, FLAT, FLIP, JUNK, LOOSE, POINT, SIX, SLIPS, moves
from test_dealclasses import Refused, Same

EVEN = (1, (1,) * 6)


class Own(Central):
    pass


def each():
    for clock in [clock for clock in CLOCKS if most_places(clock) <= 21]:
        for deal in some_deals(clock)[:6]:
            yield clock, deal, Ranked(clock, deal)


class Rankeds(Refused):
    def test_attributes(self):
        for clock, deal, one in each():
            ranks = ranks_of(clock, deal)
            self.assertEqual((one.ranks, one.free), (ranks, free_many(clock, deal)))
            touched = tuple(piece for piece, rank in zip(pieces_of(clock), ranks) if rank > 0)
            self.assertEqual(one.touched, touched)
            self.assertLessEqual({"ranks", "free", "touched"}, set(vars(one)))
            self.assertEqual((list(one), [*one]), (list(touched), list(touched)))
            for piece, rank in zip(pieces_of(clock), ranks):
                self.assertEqual((one(piece), one(piece=piece), piece in one), (rank, rank, rank > 0))
        self.assertEqual(Ranked(deal=SLIPS, clock=SIX).free, 3)

    def test_refused(self):
        for bad in [*BAD_DEALS, Ranked(SIX, SLIPS), Deal(SIX, SLIPS)]:
            self.assert_refused("deal", Ranked, SIX, bad)
            self.assert_refused("deal", Central, clock=SIX, deal=bad)
        one = Ranked(SIX, SLIPS)
        for bad in BAD["piece"]():
            self.assert_refused("piece", one, bad)
            self.assert_refused("piece", one, piece=bad)

    def test_what_is_no_piece_in_it(self):
        one = Ranked(SIX, (1, (1, 2, 0, 0, 0, 0)))
        for thing in [*JUNK, (True, 1), (1, True), [1, 1], (3, 2), (6, 1), (1,), (1, 1, 1), "x", one, Same()]:
            self.assertIs(thing in one, False)
        self.assertEqual([piece in one for piece in pieces(SIX)], [True] * 3)
        self.assertEqual([(1, 2) in Ranked(SIX, SLIPS), (1, 1) in Ranked(POINT, (1, (0,)))], [False, False])

    def test_both(self):
        slips, whole, none = Ranked(SIX, SLIPS), Ranked(SIX, (1, (1, 2, 0, 0, 0, 0))), Ranked(SIX, (1, (0,) * 6))
        sign = Central(SIX, (6, (1, 1, 1, -1, -1, -1)))
        self.assertEqual([slips & whole, whole & slips, slips & none, sign & slips, sign & whole, whole & sign],
                         [((1, 1), (3, 1)), ((1, 1), (3, 1)), (), (), ((1, 2),), ((1, 2),)])
        for other in [*JUNK, SLIPS, 1, ((1, 1),), Ranked(FLAT, SLIPS), Ranked(LOOSE, SLIPS), Same(), Deal(SIX, SLIPS)]:
            self.assert_refused("other", lambda other=other: slips & other)
            self.assert_refused("other", lambda other=other: sign & other)

    def test_equal(self):
        one, even = Ranked(SIX, SLIPS), Ranked(SIX, EVEN)
        self.assertTrue(one == Ranked(SIX, SLIPS) and even == Central(SIX, EVEN) and Central(SIX, EVEN) == even)
        self.assertTrue(even == Own(SIX, EVEN) and Own(SIX, EVEN) == even)
        self.assertFalse(one != Ranked(SIX, SLIPS))
        for thing in [Ranked(SIX, FLIP), Ranked(LOOSE, SLIPS), Ranked(FLAT, SLIPS), SLIPS, None, 1, [], "deal",
                      Deal(SIX, SLIPS), even]:
            self.assertIs(one == thing, False)
            self.assertIs(one != thing, True)
        # FLIP and SLIPS have equal ranks and are two deals
        self.assertEqual(Ranked(SIX, FLIP).ranks, one.ranks)

    def test_a_ranked_stays_as_it_is(self):
        one, other = Ranked(SIX, SLIPS), Ranked(SIX, FLIP)
        before = (one.ranks, one.free, one.touched, list(one))
        one & other, one == other, one((1, 1)), (1, 1) in one
        self.assert_refused("other", lambda: one & None)
        self.assertEqual((one.ranks, one.free, one.touched, list(one)), before)


class Centrals(Refused):
    def test_shares(self):
        for clock in [clock for clock in CLOCKS if most_places(clock) <= 30]:
            for deal in alike_deals(clock):
                one = Central(clock, deal)
                self.assertIsInstance(one, Ranked)
                self.assertEqual(one.shares, class_weights(clock, deal))
                self.assertIn("shares", vars(one))
                for move in moves(clock):
                    self.assertEqual(one.share_at(move), weight_at(clock, deal, move))
                self.assertEqual((one.ranks, one.free), (ranks_of(clock, deal), free_many(clock, deal)))

    def test_refused(self):
        for deal in [SLIPS, FLIP, (1, (0, 1, 2, 0, 0, 0)), (1, (0, 0, 0, 0, 0, 1))]:
            self.assert_refused("deal", Central, SIX, deal)
            self.assert_refused("deal", Own, SIX, deal)
        one = Central(SIX, (3, (3, 0, 0, 1, 1, 1)))
        for bad in BAD["move"]():
            self.assert_refused("move", one.share_at, bad)
            self.assert_refused("move", one.share_at, move=bad)
        self.assertEqual([one.share_at((0, 0)), one.share_at(move=(2, 1)), one.share_at((1, 0))],
                         [(1, 1), (1, 3), (0, 1)])

    def test_all_deals_of_a_flat_clock_are_central(self):
        one = Central(FLAT, (1, (5, -3, 2, 0, 0, 1)))
        self.assertEqual(one.shares, ((5, 1), (-3, 1), (2, 1), (0, 1), (0, 1), (1, 1)))


if __name__ == "__main__":
    unittest.main()
