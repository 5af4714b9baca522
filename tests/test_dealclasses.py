"""Deals as objects."""

import unittest

from calls import BAD, BAD_DEALS, BAD_QUOTIENTS, some_deals
from evenlater.clockparts import kept_parts
from evenlater.dealclasses import Deal, Plain
from evenlater.dealfolds import folded_deal
from evenlater.dealing import dealt, dealt_again
from evenlater.dealmaking import even_deal
from evenlater.dealsums import added, scaled, taken
from evenlater.dealtexts import deal_line
from evenlater.errors import InvalidText, LaterError, NotUsable
from evenlater.folding import folded_clock
from evenlater.mirrors import mirrored, turned_deal
from evenlater.quotients import quotient_of
from evenlater.weighing import moves_of, total_of, weight_at
from samples import CLOCKS, FLAT, FLIP, JUNK, LOOSE, POINT, SIX, SLIPS, dice, drawn_move, moves, nested


class Own(Plain):
    pass


class Same:
    def __eq__(self, other):
        return True


class Refused(unittest.TestCase):
    def assert_refused(self, name, function, *values, **named):
        with self.assertRaises(LaterError) as caught:
            function(*values, **named)
        self.assertIs(caught.exception.__class__, NotUsable)
        self.assertEqual((caught.exception.word, caught.exception.at), (name, -1))

    def is_deal(self, one, clock, deal):
        self.assertIs(one.__class__, Deal)
        self.assertEqual((one.its_clock, one.its_deal), (clock, deal))


class Deals(Refused):
    def each(self):
        for clock in CLOCKS:
            for deal in some_deals(clock)[2:6]:
                yield clock, deal, Deal(clock, deal)

    def test_properties(self):
        for clock, deal, one in self.each():
            self.is_deal(one, clock, deal)
            self.assertEqual((one.its_total, one.its_moves), (total_of(clock, deal), moves_of(clock, deal)))
        self.is_deal(Deal(deal=SLIPS, clock=SIX), SIX, SLIPS)

    def test_what_is_no_deal(self):
        for bad in [*BAD_DEALS, Deal(SIX, SLIPS)]:
            self.assert_refused("deal", Deal, SIX, bad)
            self.assert_refused("deal", Plain, clock=SIX, deal=bad)

    def test_signs(self):
        for clock, deal, one in self.each():
            other = some_deals(clock)[-1]
            two = Deal(clock, other)
            self.is_deal(one + two, clock, added(clock, deal, other))
            self.is_deal(one - two, clock, taken(clock, deal, other))
            self.is_deal(one * two, clock, dealt(clock, deal, other))
            self.is_deal(two * one, clock, dealt(clock, other, deal))
            self.is_deal(-one, clock, scaled(clock, deal, (-1, 1)))
            self.is_deal(~one, clock, mirrored(clock, deal))

    def test_signs_need_a_deal_of_an_equal_clock(self):
        one = Deal(SIX, SLIPS)
        for other in [*JUNK, SLIPS, 1, (1, 1), Deal(FLAT, SLIPS), Deal(LOOSE, SLIPS), Deal(POINT, (1, (1,))), Same()]:
            self.assert_refused("other", lambda other=other: one + other)
            self.assert_refused("other", lambda other=other: one - other)
            self.assert_refused("other", lambda other=other: one * other)

    def test_methods(self):
        rng = dice(24)
        for clock, deal, one in self.each():
            self.is_deal(one.scaled((-3, 4)), clock, scaled(clock, deal, (-3, 4)))
            self.is_deal(one.scaled(quotient=(0, 1)), clock, scaled(clock, deal, (0, 1)))
            self.is_deal(one.again(3), clock, dealt_again(clock, deal, 3))
            self.is_deal(one.again(many=0), clock, dealt_again(clock, deal, 0))
            by = drawn_move(clock, rng)
            self.is_deal(one.turned(by), clock, turned_deal(clock, deal, by))
            self.is_deal(one.turned(by=by), clock, turned_deal(clock, deal, by))
            for part in kept_parts(clock):
                self.is_deal(one.folded(part), folded_clock(clock, part), folded_deal(clock, part, deal))

    def test_methods_refuse(self):
        one = Deal(SIX, SLIPS)
        for bad in BAD_QUOTIENTS:
            self.assert_refused("quotient", one.scaled, bad)
            self.assert_refused("quotient", Deal.even, SIX, quotient=bad)
        for kind, name, method in [("number", "many", one.again), ("move", "by", one.turned),
                                   ("kept", "part", one.folded), ("move", "move", Plain(SIX, SLIPS).chance)]:
            for bad in BAD[kind]():
                self.assert_refused(name, method, bad)
                self.assert_refused(name, method, **{name: bad})
        for bad in BAD["move"]():
            self.assert_refused("move", one, bad)
            self.assert_refused("move", one, move=bad)

    def test_weights(self):
        for clock, deal, one in self.each():
            told = [weight_at(clock, deal, move) for move in moves(clock)]
            self.assertEqual([one(move) for move in moves(clock)], told)
            self.assertEqual((list(one), list(one)), (told, told))

    def test_moves_in_it(self):
        for clock, deal, one in self.each():
            self.assertEqual([move for move in sorted(moves(clock)) if move in one], list(moves_of(clock, deal)))
        one = Deal(SIX, (1, (1,) * 6))
        for thing in [*JUNK, (True, 0), (0, False), (1, True), [1, 1], (3, 0), 1, nested(30, tuple), one, Same()]:
            self.assertIs(thing in one, False)
        self.assertIs((1, 1) in one, True)

    def test_equal(self):
        one = Deal(SIX, SLIPS)
        self.assertTrue(one == Plain(SIX, SLIPS) and Plain(SIX, SLIPS) == one and one == Own(SIX, SLIPS))
        self.assertFalse(one != Plain(SIX, SLIPS))
        for thing in [Deal(SIX, FLIP), Deal(FLAT, SLIPS), Deal(LOOSE, SLIPS), SLIPS, None, 1, [], "deal", JUNK]:
            self.assertIs(one == thing, False)
            self.assertIs(one != thing, True)
        self.assertIs(one.__eq__(Same()), False)

    def test_lines(self):
        for clock, deal, one in self.each():
            self.assertEqual(str(one), deal_line(clock, deal))
            self.is_deal(Deal.read(clock, str(one)), clock, deal)
        with self.assertRaises(InvalidText) as caught:
            Deal.read(clock=SIX, text="deal 1 1 2 0 1 2")
        self.assertEqual((caught.exception.line, caught.exception.field), (0, 7))
        self.assert_refused("text", Deal.read, SIX, None)
        self.assert_refused("text", Deal.read, SIX, ("deal",))

    def test_even(self):
        for clock in CLOCKS:
            self.is_deal(Deal.even(clock, (-3, 5)), clock, even_deal(clock, (-3, 5)))
        self.is_deal(Deal.even(quotient=(0, 1), clock=SIX), SIX, (1, (0,) * 6))

    def test_derived_classes_give_deals(self):
        for one in (Plain(SIX, SLIPS), Own(SIX, SLIPS)):
            results = [one + one, one - one, one * one, -one, ~one, one.scaled((1, 2)), one.again(2),
                       one.turned((1, 0)), one.folded((3, 1, 0))]
            self.assertEqual({result.__class__ for result in results}, {Deal})

    def test_a_deal_stays_as_it_is(self):
        one, two = Deal(SIX, SLIPS), Deal(SIX, FLIP)
        before = (one.its_clock, one.its_deal, list(one), str(one), one.its_moves)
        one + two, one - two, one * two, -one, ~one, one.again(3), one.scaled((1, 3)), one.turned((2, 1))
        one.folded((3, 1, 0)), one((0, 0)), (0, 0) in one
        self.assert_refused("other", lambda: one + None)
        self.assertEqual((one.its_clock, one.its_deal, list(one), str(one), one.its_moves), before)


class Plains(Refused):
    def test_only_plain_deals(self):
        for deal in [(1, (0,) * 6), (1, (1, -1, 0, 0, 0, 0)), (2, (-1,) * 6)]:
            self.assertIs(Deal(SIX, deal).its_deal, deal)
            self.assert_refused("deal", Plain, SIX, deal)
        self.assertIsInstance(Plain(SIX, SLIPS), Deal)

    def test_chances(self):
        one = Plain(SIX, (5, (1, 2, 0, 1, 2, 0)))
        self.assertEqual([one.chance(move) for move in moves(SIX)], [quotient_of(k, 6) for k in (1, 2, 0, 1, 2, 0)])
        self.assertEqual(one.chance(move=(1, 1)), (1, 3))
        self.assertEqual(Plain(POINT, (7, (3,))).chance((0, 0)), (1, 1))

    def test_from_slips(self):
        one = Plain.from_slips(SIX, (1, 0), (0, 0), (1, 1), (1, 0), (0, 1), (1, 1))
        self.assertEqual((one.__class__, one.its_clock, one.its_deal), (Plain, SIX, SLIPS))
        self.assertEqual(Plain.from_slips(SIX, (1, 0)).its_deal, (1, (0, 1, 0, 0, 0, 0)))
        self.assertEqual(Plain.from_slips(SIX, (2, 1), (2, 1)).its_deal, (1, (0, 0, 0, 0, 0, 2)))
        self.assertEqual(Plain.from_slips(POINT, *[(0, 0)] * 40).its_deal, (1, (40,)))

    def test_slips_that_are_refused(self):
        self.assert_refused("slips", Plain.from_slips, SIX)
        for bad in [(3, 0), (True, 0), [0, 0], None, (), ((0, 0),), 0]:
            self.assert_refused("slips", Plain.from_slips, SIX, (0, 0), bad)
            self.assert_refused("slips", Plain.from_slips, SIX, bad)


if __name__ == "__main__":
    unittest.main()
