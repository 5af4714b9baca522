"""Deals as objects that keep their recalls."""

import unittest

from calls import BAD, BAD_DEALS, BAD_QUOTIENTS, idle_of, zero_of
from evenlater.backs import back_deal, has_back
from evenlater.between import made_between
from evenlater.dealclasses import Deal
from evenlater.dealing import dealt, dealt_again, dealt_row
from evenlater.dealmaking import even_on
from evenlater.dealtexts import deal_line
from evenlater.errors import InvalidText, Lacking, Unmade, Unrecalled
from evenlater.joins import common_left, common_right, joint_left, joint_right
from evenlater.making import is_made_left, made_left, made_right
from evenlater.mirrors import mirrored
from evenlater.ranks import ranks_of
from evenlater.recallclasses import Backed, Recalled
from evenlater.recalls import recall_of
from evenlater.sides import left_side, right_side
from samples import FLAT, FLIP, JUNK, LOOSE, POINT, SIX, SLIPS, dice, drawn_deal, size
from test_dealclasses import Refused, Same
from test_eveners import IDLE, TINY
from test_making import BACK, STEP, pairs
from test_recalls import LARGE, each

BAD_POWERS = [*BAD["integer"](), -41, 41, 10 ** 59, -(10 ** 59), (1, 1)]


class Own(Backed):
    pass


class Recalleds(Refused):
    def is_recalled(self, one, clock, deal):
        self.assertIs(one.__class__, Recalled)
        self.assertEqual((one.its_clock, one.its_deal, one.its_recall), (clock, deal, recall_of(clock, deal)))
        self.assertEqual((one.its_left, one.its_right), (left_side(clock, deal), right_side(clock, deal)))

    def test_properties(self):
        for clock, deal in each(281, TINY):
            self.is_recalled(Recalled(clock, deal), clock, deal)
        self.is_recalled(Recalled(deal=SLIPS, clock=SIX), SIX, SLIPS)

    def test_what_is_no_deal(self):
        for bad in [*BAD_DEALS, Recalled(SIX, SLIPS), Deal(SIX, SLIPS)]:
            self.assert_refused("deal", Recalled, SIX, bad)
            self.assert_refused("deal", Backed, clock=SIX, deal=bad)

    def test_swapped_and_mirrored(self):
        for clock, deal in each(282, TINY):
            one = Recalled(clock, deal)
            self.is_recalled(one.swapped(), clock, recall_of(clock, deal))
            self.is_recalled(one.mirrored(), clock, mirrored(clock, deal))
            self.assertTrue(one.swapped().swapped() == one and one.mirrored().mirrored() == one)
            self.assertEqual(one.swapped().mirrored().its_recall, mirrored(clock, deal))

    def test_nothing_is_solved_by_them(self):
        """A recall with so many figures that solving for it once more would take very long."""
        clock = (42, ())
        one = Recalled(clock, drawn_deal(clock, dice(283), 10 ** 6))
        for _ in range(50):
            swapped = one.swapped()
            self.assertEqual((swapped.its_recall, swapped.its_deal), (one.its_deal, one.its_recall))
            self.assertEqual(swapped.mirrored().swapped().its_deal, mirrored(clock, one.its_deal))

    def answer(self, function, *values, **named):
        try:
            return function(*values, **named)
        except (Unmade, Lacking) as error:
            return error.__class__, vars(error)

    def test_made_and_between(self):
        for clock, deal, other in pairs(284, TINY):
            one = Recalled(clock, deal)
            for name, function in [("left", made_left), ("right", made_right)]:
                self.assertEqual(self.answer(one.made, other, side=name), self.answer(function, clock, deal, other))
            self.assertEqual(self.answer(one.made, other), self.answer(made_left, clock, deal, other))
            self.assertEqual(self.answer(one.made, other=other), self.answer(made_left, clock, deal, other))
            told = self.answer(one.between, other)
            if told[0] is Lacking:
                self.assertEqual(told, self.answer(made_between, clock, deal, other))
            else:
                self.assertEqual(dealt_row(clock, (told[0], deal, told[1])), other)

    def test_errors_passed_on(self):
        one = Recalled(SIX, FLIP)
        with self.assertRaises(Unmade) as caught:
            one.made(SLIPS)
        self.assertEqual(vars(caught.exception), {"witness": (2, (1, 0, 0, -1, 0, 0))})
        with self.assertRaises(Lacking) as caught:
            one.between(IDLE)
        self.assertEqual(vars(caught.exception), {"piece": (1, 2)})
        self.assertEqual(one.made(SLIPS, side="right"), (2, (1, 2, 0, 1, 2, 0)))

    def test_joint_and_common(self):
        for clock, deal, other in pairs(285, TINY[:4]):
            one, two = Recalled(clock, deal), Recalled(clock, other)
            self.assertEqual([one.joint(two), one.joint(two, side="left"), one.joint(other=two, side="right")],
                             [joint_left(clock, deal, other)] * 2 + [joint_right(clock, deal, other)])
            self.assertEqual([one.common(two), one.common(two, side="left"), one.common(other=two, side="right")],
                             [common_left(clock, deal, other)] * 2 + [common_right(clock, deal, other)])
        one = Recalled(SIX, FLIP)
        self.assertEqual(one.joint(Own(SIX, STEP)), IDLE)

    def test_other_first_then_side(self):
        one, two = Recalled(SIX, SLIPS), Recalled(SIX, FLIP)
        for bad in [*BAD_DEALS, two]:
            self.assert_refused("other", one.made, bad)
            self.assert_refused("other", one.made, bad, side="up")
            self.assert_refused("other", one.between, bad)
            self.assert_refused("other", one.between, other=bad)
        for bad in [*JUNK, SLIPS, 1, Recalled(FLAT, SLIPS), Recalled(LOOSE, SLIPS), Recalled(POINT, (1, (1,))), Same(),
                    Deal(SIX, SLIPS)]:
            for method in (one.joint, one.common):
                self.assert_refused("other", method, bad)
                self.assert_refused("other", method, bad, side=None)
                self.assert_refused("other", method, other=bad, side="right")
        for bad in [*BAD["side"](), Same]:
            for method, other in [(one.made, SLIPS), (one.joint, two), (one.common, two)]:
                self.assert_refused("side", method, other, side=bad)
                self.assert_refused("side", method, side=bad, other=other)

    def test_sides_are_passed_by_keyword_only(self):
        one, two = Recalled(SIX, SLIPS), Recalled(SIX, FLIP)
        for method, other in [(one.made, SLIPS), (one.joint, two), (one.common, two)]:
            self.assertRaises(TypeError, method, other, "left")

    def test_deals_in_it(self):
        told = []
        for clock, deal, other in pairs(286, TINY):
            told.append(is_made_left(clock, deal, other))
            self.assertIs(other in Recalled(clock, deal), told[-1])
        self.assertGreater(min(told.count(True), told.count(False)), 20)
        for thing in [*BAD_DEALS, *JUNK, Recalled(SIX, SLIPS), Same(), FLIP]:
            self.assertIs(thing in Recalled(SIX, SLIPS), False)
        zero = Recalled(SIX, zero_of(SIX))
        self.assertEqual([zero_of(SIX) in zero, IDLE in zero, (1, (False,) * 6) in zero], [True, False, False])

    def test_lines_and_reading(self):
        for clock, deal in each(287, TINY):
            one = Recalled(clock, deal)
            self.assertEqual(str(one), deal_line(clock, deal))
            self.is_recalled(Recalled.read(clock, str(one)), clock, deal)
        self.is_recalled(Recalled.read(text="deal 1 1 2 0 1 2 0", clock=SIX), SIX, SLIPS)
        self.assert_refused("text", Recalled.read, SIX, None)
        with self.assertRaises(InvalidText) as caught:
            Recalled.read(SIX, "deal 1 1 2 0 1 2")
        self.assertEqual((caught.exception.line, caught.exception.field), (0, 7))

    def test_equal(self):
        one, step = Recalled(SIX, SLIPS), Recalled(SIX, STEP)
        self.assertTrue(one == Recalled(SIX, SLIPS) and step == Backed(SIX, STEP) and Backed(SIX, STEP) == step)
        self.assertTrue(step == Own(SIX, STEP) and Own(SIX, STEP) == step and not one != Recalled(SIX, SLIPS))
        for thing in [Recalled(SIX, FLIP), Recalled(LOOSE, SLIPS), Recalled(FLAT, SLIPS), SLIPS, None, 1, [],
                      Deal(SIX, SLIPS), step, recall_of(SIX, SLIPS)]:
            self.assertIs(one == thing, False)
            self.assertIs(one != thing, True)

    def test_a_recalled_stays_as_it_is(self):
        one = Recalled(SIX, SLIPS)
        before = (one.its_clock, one.its_deal, one.its_recall, one.its_left, one.its_right)
        one.swapped(), one.mirrored(), one.joint(one), one.between(FLIP), FLIP in one, str(one)
        self.assert_refused("other", one.joint, None)
        self.assertEqual((one.its_clock, one.its_deal, one.its_recall, one.its_left, one.its_right), before)


class Backeds(Refused):
    def each(self, seed):
        for clock, deal in each(seed, TINY):
            if has_back(clock, deal):
                yield clock, deal

    def test_powers(self):
        for clock, deal in [*self.each(291), (SIX, STEP), (POINT, (3, (-2,)))]:
            one, back = Backed(clock, deal), back_deal(clock, deal)
            self.assertIs(isinstance(one, Recalled), True)
            self.assertEqual((one.its_recall, one.its_left), (back, idle_of(clock)))
            for many in (0, 1, 2, 7, 40):
                self.assertEqual(one.power(many), dealt_again(clock, deal, many))
                self.assertEqual(one.power(-many), dealt_again(clock, back, many))
            self.assertEqual(dealt(clock, one.power(-5), one.power(many=5)), idle_of(clock))
        self.assertEqual([Backed(SIX, STEP).power(-1), Backed(SIX, STEP).power(0)], [BACK, IDLE])

    def test_bad_powers(self):
        one = Backed(SIX, STEP)
        for bad in BAD_POWERS:
            self.assert_refused("many", one.power, bad)
            self.assert_refused("many", one.power, many=bad)

    def test_what_lacks_rank(self):
        for clock, deal in each(292, TINY):
            if not has_back(clock, deal):
                with self.assertRaises(Unrecalled) as first:
                    back_deal(clock, deal)
                for made in (Backed, Own):
                    with self.assertRaises(Unrecalled) as caught:
                        made(clock, deal)
                    self.assertEqual(vars(caught.exception), vars(first.exception))
        with self.assertRaises(Unrecalled) as caught:
            Backed(SIX, SLIPS)
        self.assertEqual(caught.exception.piece, (1, 2))
        self.assertEqual(ranks_of(SIX, SLIPS), (1, 0, 1))

    def test_what_it_gives_is_a_recalled(self):
        one = Own(SIX, STEP)
        for other in (one.swapped(), one.mirrored(), one.swapped().swapped()):
            self.assertIs(other.__class__, Recalled)
        self.assertEqual((one.swapped().its_deal, Backed.read(SIX, str(one)).its_deal), (BACK, STEP))

    def test_forty_two_moves(self):
        for clock in LARGE[:3]:
            deal = drawn_deal(clock, dice(293), 99)
            self.assertEqual(dealt(clock, Backed(clock, deal).power(-1), deal), idle_of(clock))
            thin = Recalled(clock, even_on(clock, (1, size(clock) // clock[0], 0)))
            self.assertIs(dealt(clock, deal, thin.its_deal) in thin, True)
            self.assertIs(deal in thin, size(clock) == clock[0])


class OtherValues(Refused):
    def test_quotients_moves_and_pieces_are_no_deals(self):
        one = Recalled(SIX, SLIPS)
        for bad in [*BAD_QUOTIENTS, (1, 1), (0, 0), (3, 1), ((1, 2), (1, 2))]:
            self.assert_refused("other", one.made, bad)
            self.assertIs(bad in one, False)


if __name__ == "__main__":
    unittest.main()
