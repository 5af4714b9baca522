"""Plain deals as objects from which moves are drawn."""

import unittest

from calls import BAD, BAD_PLAINS, even_of, idle_of, plain_deals, some_move_sets
from evenlater.coming import come_after
from evenlater.dealclasses import Deal, Plain
from evenlater.dealing import dealt, dealt_again
from evenlater.dealmaking import deal_on, single_deal
from evenlater.drawclasses import Drawing, Sure
from evenlater.homes import home_of, period_of, reach_of
from evenlater.nearing import comes_near
from evenlater.spreads import chance_at, spread_after
from evenlater.waits import wait_for
from evenlater.weighing import moves_of
from samples import CLOCKS, FLAT, FLIP, JUNK, LOOSE, POINT, SEVEN, SIX, SLIPS, deal_for, moves, size, then
from test_dealclasses import Refused, Same
from test_spreads import chances

TINY = [POINT, (1, ((2, 1),)), SIX, (6, ()), LOOSE, (1, ((2, 1), (3, 1))), (10, ()), SEVEN]
TOLD = ("clock_told", "chances_told", "reach_told", "home_told", "period_told")


class Own(Sure):
    pass


def told(one):
    return [getattr(one, name) for name in TOLD]


class Drawings(Refused):
    def is_drawing(self, one, clock, deal):
        self.assertIs(one.__class__, Drawing)
        self.assertEqual((one.clock_told, one.chances_told), (clock, deal_for(chances(deal))))

    def each(self, clocks=TINY):
        for clock in clocks:
            for deal in plain_deals(clock):
                yield clock, deal, Drawing(clock, deal)

    def test_attributes(self):
        for clock, deal, one in self.each(CLOCKS):
            self.is_drawing(one, clock, deal)
            known = moves_of(clock, deal)
            self.assertEqual((one.reach_told, one.home_told, one.period_told, one.near_told),
                             (reach_of(clock, known), home_of(clock, known), period_of(clock, known),
                              comes_near(clock, deal)))
            self.assertLessEqual(set(TOLD), set(vars(one)))
        self.is_drawing(Drawing(deal=SLIPS, clock=SIX), SIX, SLIPS)

    def test_what_is_no_plain_deal(self):
        for bad in [*BAD_PLAINS, Drawing(SIX, SLIPS), Deal(SIX, SLIPS), Plain(SIX, SLIPS)]:
            self.assert_refused("deal", Drawing, SIX, bad)
            self.assert_refused("deal", Drawing, clock=SIX, deal=bad)

    def test_chances_waits_and_spreads(self):
        for clock, deal, one in self.each():
            for move in moves(clock):
                self.assertEqual(one[move], chance_at(clock, deal, move, 1))
            for many in (0, 1, 2, 5):
                self.assertEqual([one(many), one(many=many)], [come_after(clock, moves_of(clock, deal), many)] * 2)
                self.assertEqual(one.spread_at(many), spread_after(clock, deal, many))
            if len(str(deal)) < 300:
                for move in moves(clock)[:5]:
                    self.assertEqual(one.wait_at(move), wait_for(clock, deal, move))
        one = Drawing(SIX, SLIPS)
        self.assertEqual([one.wait_at(move=(1, 0)), one.spread_at(many=1), one(100), one.spread_at(40)],
                         [(5, 1), (1, 3), tuple(sorted(moves(SIX))), (0, 1)])

    def test_drawings_returned(self):
        for clock, deal, one in self.each():
            for many in (0, 1, 3):
                self.is_drawing(one.drawn_again(many), clock, dealt_again(clock, deal, many))
            other = plain_deals(clock)[-2]
            self.is_drawing(one.then_draw(Drawing(clock, other)), clock, dealt(clock, deal, other))
            self.is_drawing(Drawing(clock, other).then_draw(other=one), clock, dealt(clock, other, deal))
        sure = Own(SIX, (0, 1))
        self.is_drawing(sure.drawn_again(many=2), SIX, idle_of(SIX))
        self.is_drawing(sure.then_draw(Drawing(SIX, SLIPS)), SIX, dealt(SIX, sure.chances_told, SLIPS))

    def test_methods_refuse(self):
        for one in (Drawing(SIX, SLIPS), Own(SIX, (0, 1))):
            for bad in BAD["move"]():
                self.assert_refused("move", lambda bad=bad: one[bad])
                self.assert_refused("move", one.wait_at, bad)
                self.assert_refused("move", one.wait_at, move=bad)
            for bad in BAD["number"]():
                for method in (one, one.spread_at, one.drawn_again):
                    self.assert_refused("many", method, bad)
                    self.assert_refused("many", method, many=bad)
            for bad in [*JUNK, SLIPS, 1, Drawing(FLAT, SLIPS), Drawing(LOOSE, SLIPS), Drawing(POINT, (1, (1,))), Same(),
                        Deal(SIX, SLIPS), Plain(SIX, SLIPS)]:
                self.assert_refused("other", one.then_draw, bad)
                self.assert_refused("other", one.then_draw, other=bad)

    def test_moves_in_it(self):
        for clock, deal, one in self.each(CLOCKS):
            known = [move for move, weight in zip(moves(clock), deal[1]) if weight]
            self.assertEqual((len(one), list(one), [*one]), (len(known), sorted(known), sorted(known)))
            self.assertEqual([move for move in sorted(moves(clock)) if move in one], sorted(known))
        one = Drawing(SIX, even_of(SIX))
        for thing in [*JUNK, (True, 0), (0, False), (3, 0), [0, 0], (0,), (0, 0, 0), "x", 0, one, Same()]:
            self.assertIs(thing in one, False)

    def test_equal(self):
        one, sure = Drawing(SIX, SLIPS), Sure(SIX, (0, 1))
        self.assertTrue(one == Drawing(SIX, SLIPS) and one == Drawing(SIX, (3, SLIPS[1])))
        self.assertTrue(sure == Drawing(SIX, (5, (0, 0, 0, 3, 0, 0))) and Drawing(SIX, (1, (0, 0, 0, 1, 0, 0))) == sure)
        self.assertTrue(Own(SIX, (0, 1)) == sure and sure == Own(SIX, (0, 1)) and not one != Drawing(SIX, SLIPS))
        for thing in [Drawing(SIX, FLIP), Drawing(LOOSE, SLIPS), Drawing(FLAT, SLIPS), SLIPS, (6, SLIPS[1]), None, 1, [],
                      Deal(SIX, SLIPS), sure, one.chances_told]:
            self.assertIs(one == thing, False)
            self.assertIs(one != thing, True)

    def test_of_moves(self):
        for clock in CLOCKS:
            for some in some_move_sets(clock):
                one = Drawing.of_moves(clock, some)
                self.is_drawing(one, clock, deal_on(clock, some))
                self.assertEqual(tuple(one), some)
        for bad in [*BAD["moves"](), Drawing(SIX, SLIPS)]:
            self.assert_refused("moves", Drawing.of_moves, SIX, bad)
            self.assert_refused("moves", Drawing.of_moves, clock=SIX, moves=bad)
        self.is_drawing(Own.of_moves(SIX, ((0, 0), (0, 1))), SIX, FLIP)

    def test_a_drawing_stays_as_it_is(self):
        one = Drawing(SIX, SLIPS)
        before = (*told(one), one.near_told, list(one))
        one.drawn_again(3), one.then_draw(one), one(4), one[(0, 0)], one.wait_at((1, 0)), (0, 0) in one, one == one
        self.assert_refused("other", one.then_draw, None)
        self.assertEqual((*told(one), one.near_told, list(one)), before)


class Sures(Refused):
    def test_attributes(self):
        for clock in CLOCKS:
            for move in moves(clock)[::max(1, size(clock) // 7)]:
                sure = Sure(clock, move)
                self.assertIsInstance(sure, Drawing)
                self.assertEqual((sure.clock_told, sure.chances_told), (clock, single_deal(clock, move, (1, 1))))
                self.assertEqual((list(sure), sure.home_told, sure.near_told), ([move], (1, 1, 0), size(clock) == 1))
                self.assertEqual(sure.period_told, sure.reach_told[0] * sure.reach_told[1])
        self.assertEqual(Sure(move=(1, 0), clock=SEVEN).period_told, 7)

    def test_deals_to(self):
        for clock in CLOCKS:
            for move in moves(clock)[::max(1, size(clock) // 7)]:
                sure, walk = Sure(clock, move), [(0, 0)]
                while (after := then(clock, walk[-1], move)) != (0, 0):
                    walk.append(after)
                for other in moves(clock):
                    found = sure.deals_to(other)
                    self.assertEqual(found, walk.index(other) if other in walk else None)
                    self.assertIn(found.__class__, (int, type(None)))
                    if size(clock) <= 10:
                        self.assertEqual(sure.wait_at(other), None if found is None else (found, 1))
        self.assertEqual([Sure(SEVEN, (1, 0)).deals_to(other=(3, 0)), Sure(POINT, (0, 0)).deals_to((0, 0))], [3, 0])

    def test_refused(self):
        for bad in [*BAD["move"](), Sure(SIX, (0, 0))]:
            self.assert_refused("move", Sure, SIX, bad)
            self.assert_refused("move", Own, clock=SIX, move=bad)
            self.assert_refused("other", Sure(SIX, (0, 1)).deals_to, bad)
            self.assert_refused("other", Sure(SIX, (0, 1)).deals_to, other=bad)


if __name__ == "__main__":
    unittest.main()
