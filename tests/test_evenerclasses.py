"""Deals as objects that tell what they make even."""

import unittest

from calls import BAD, BAD_DEALS, all_triples, some_deals, some_move_sets
from evenlater.choosers import chooser_of
from evenlater.dealclasses import Deal
from evenlater.dealmaking import deal_on, even_on
from evenlater.dealtexts import deal_line
from evenlater.errors import Uneven
from evenlater.evenerclasses import Evener, Filled
from evenlater.eveners import even_many, evener_left, evener_right
from evenlater.evenness import first_crowded, is_evened
from evenlater.mirrors import mirrored
from evenlater.movesthrough import moves_through
from evenlater.nearevens import gap_even, nearest_even
from evenlater.partfills import part_fillers
from evenlater.through import even_through
from samples import CLOCKS, FLAT, FLIP, JUNK, LOOSE, POINT, SIX, SLIPS, SMALL_CLOCKS, drawn_deal, dice, own_dealt, size
from test_dealclasses import Refused, Same
from test_eveners import IDLE, TINY, is_flat
from test_making import pairs
from test_recalls import each

METHODS = ("gap_to", "pair_through", "moves_to")


class Own(Filled):
    pass


class Eveners(Refused):
    def is_evener(self, one, clock, deal):
        self.assertIs(one.__class__, Evener)
        self.assertEqual((one.its_clock, one.its_deal), (clock, deal))

    def test_properties(self):
        for clock, deal in each(301, TINY):
            one = Evener(clock, deal)
            self.is_evener(one, clock, deal)
            self.assertEqual((one.right_evener, one.left_evener, one.evener_many),
                             (evener_right(clock, deal), evener_left(clock, deal), even_many(clock, deal)))
            self.assertEqual(str(one), deal_line(clock, deal))
            mirror = one.of_mirror()
            self.is_evener(mirror, clock, mirrored(clock, deal))
            self.assertEqual((mirror.right_evener, mirror.left_evener), (one.left_evener, one.right_evener))
        self.is_evener(Evener(deal=SLIPS, clock=SIX), SIX, SLIPS)

    def test_what_is_no_deal(self):
        for bad in [*BAD_DEALS, Evener(SIX, SLIPS), Deal(SIX, SLIPS)]:
            self.assert_refused("deal", Evener, SIX, bad)
            self.assert_refused("deal", Evener, clock=SIX, deal=bad)

    def test_largest_clocks_and_long_weights(self):
        """What is not solved is for every clock, and for deals with thirty figures."""
        for clock in CLOCKS:
            for deal in some_deals(clock)[:5]:
                one = Evener(clock, deal)
                self.is_evener(one.of_mirror(), clock, mirrored(clock, deal))
                self.assertIs(deal in one, is_flat(own_dealt(clock, deal, deal)))
                self.assertTrue(one == Evener(clock, deal) and str(one) == deal_line(clock, deal))

    def test_calls_and_methods(self):
        for clock, deal, other in pairs(302, TINY):
            one = Evener(clock, deal)
            near = nearest_even(clock, deal, other)
            self.assertEqual([one(other), one(other=other)], [near, near])
            self.assertEqual((one.gap_to(other), one.moves_to(other=other)),
                             (gap_even(clock, deal, other), moves_through(clock, deal, other)))
            crowded = first_crowded(clock, deal, other)
            self.assertEqual(one & Evener(clock, other), crowded)
            if crowded is None:
                self.assertEqual(one.pair_through(other), even_through(clock, deal, other))
            else:
                with self.assertRaises(Uneven) as caught:
                    one.pair_through(other)
                self.assertEqual(vars(caught.exception), {"piece": crowded})

    def test_methods_refuse(self):
        one = Evener(SIX, SLIPS)
        for bad in [*BAD_DEALS, one, Deal(SIX, FLIP)]:
            self.assert_refused("other", one, bad)
            self.assert_refused("other", one, other=bad)
            for name in METHODS:
                self.assert_refused("other", getattr(one, name), bad)
                self.assert_refused("other", getattr(one, name), other=bad)

    def test_deals_in_it(self):
        told = []
        for clock, deal, other in pairs(303, TINY):
            told.append(is_evened(clock, deal, other))
            self.assertIs(other in Evener(clock, deal), told[-1])
        self.assertGreater(min(told.count(True), told.count(False)), 20)
        even = Evener(SIX, (1, (1,) * 6))
        self.assertIs(SLIPS in even, True)
        for thing in [*BAD_DEALS, *JUNK, even, Same(), Deal(SIX, SLIPS)]:
            self.assertIs(thing in even, False)

    def test_both(self):
        slips, idle = Evener(SIX, SLIPS), Evener(SIX, IDLE)
        self.assertEqual([slips & idle, idle & idle, idle & slips, slips & Evener(SIX, FLIP)], [(3, 1), (1, 2), (3, 1), None])
        self.assertEqual([slips & Filled(SIX, (1, 2, 0)), Own(SIX, (1, 1, 0)) & slips], [None, (3, 1)])
        for other in [*JUNK, SLIPS, 1, (1, 1), Evener(FLAT, SLIPS), Evener(LOOSE, SLIPS), Evener(POINT, (1, (1,))),
                      Same(), Deal(SIX, SLIPS)]:
            self.assert_refused("other", lambda other=other: slips & other)
            self.assert_refused("other", lambda other=other: Filled(SIX, (1, 1, 0)) & other)

    def test_equal(self):
        one, filled = Evener(SIX, SLIPS), Filled(SIX, (1, 2, 0))
        self.assertTrue(one == Evener(SIX, SLIPS) and filled == Evener(SIX, (2, (1, 0, 0, 1, 0, 0))))
        self.assertTrue(Evener(SIX, (2, (1, 0, 0, 1, 0, 0))) == filled and Own(SIX, (1, 2, 0)) == filled)
        self.assertFalse(one != Evener(SIX, SLIPS))
        for thing in [Evener(SIX, FLIP), Evener(LOOSE, SLIPS), Evener(FLAT, SLIPS), SLIPS, None, 1, [], filled,
                      Deal(SIX, SLIPS), str(one)]:
            self.assertIs(one == thing, False)
            self.assertIs(one != thing, True)

    def test_of_moves(self):
        for clock in CLOCKS:
            for some in some_move_sets(clock):
                self.is_evener(Evener.of_moves(clock, *some), clock, deal_on(clock, some))
        for bad in [(), ((0, 0), (0, 0)), ((1, 0), (0, 0)), ((0, 0), (3, 0)), (None,), ((True, 0),), ([0, 0],),
                    (((0, 0), (0, 1)),), ("0", "0"), ((0, 0), True), *[(thing,) for thing in JUNK]]:
            self.assert_refused("moves", Evener.of_moves, SIX, *bad)
        self.is_evener(Own.of_moves(SIX, (0, 0), (0, 1)), SIX, FLIP)

    def test_an_evener_stays_as_it_is(self):
        one = Evener(SIX, SLIPS)
        before = (one.its_clock, one.its_deal, one.right_evener, one.left_evener, one.evener_many)
        one(FLIP), one & one, FLIP in one, one.of_mirror(), one.pair_through(FLIP), str(one)
        self.assert_refused("other", one, None)
        self.assertEqual((one.its_clock, one.its_deal, one.right_evener, one.left_evener, one.evener_many), before)


class Filleds(Refused):
    def test_parts(self):
        for clock in SMALL_CLOCKS:
            for part in all_triples(clock):
                one = Filled(clock, part)
                self.assertIsInstance(one, Evener)
                self.assertEqual((one.its_clock, one.its_deal), (clock, even_on(clock, part)))
                self.assertEqual((one.filled_part, one.its_chooser, one.its_fillers),
                                 (part, chooser_of(clock, part), part_fillers(clock, part)))
        self.assertEqual(Filled(part=(1, 2, 0), clock=SIX).its_fillers, ((3, 1, 0),))

    def test_largest_clocks(self):
        for clock in CLOCKS:
            one = Filled(clock, (clock[0], 1, 0))
            self.assertEqual((len(one.its_chooser), len(one.its_chooser) * clock[0]), (size(clock) // clock[0], size(clock)))
            self.assertIs(drawn_deal(clock, dice(304), 3) in one, size(clock) == clock[0])

    def test_refused(self):
        for bad in [*BAD["part"](), Filled(SIX, (1, 1, 0))]:
            self.assert_refused("part", Filled, SIX, bad)
            self.assert_refused("part", Own, clock=SIX, part=bad)

    def test_what_it_gives_is_an_evener(self):
        one = Own(SIX, (1, 2, 1))
        self.assertIs(one.of_mirror().__class__, Evener)
        self.assertTrue(one.of_mirror() == one)
        self.assertEqual(one.right_evener, evener_right(SIX, one.its_deal))


if __name__ == "__main__":
    unittest.main()
