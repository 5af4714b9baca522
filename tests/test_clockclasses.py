"""Clocks as objects."""

import unittest

from evenlater.clockclasses import Clock, Flat
from evenlater.errors import InvalidPaper, InvalidText, LaterError, NotUsable
from evenlater.folding import folded_clock
from evenlater.clockparts import kept_parts
from samples import CLOCKS, FLAT, JUNK, LOOSE, SEVEN, SIX, dice, drawn_move, edge, moves, nested, size, then, turns


class Same:
    def __eq__(self, other):
        return True


class Clocks(unittest.TestCase):
    def assert_raises(self, error, fields, function, *values, **named):
        with self.assertRaises(LaterError) as caught:
            function(*values, **named)
        self.assertIs(caught.exception.__class__, error)
        self.assertEqual(tuple(vars(caught.exception).values()), fields)

    def test_properties(self):
        for clock in CLOCKS:
            one = Clock(*clock)
            told = (one.form_now, one.many_now, one.turns_now, one.edge_now)
            self.assertEqual(told, (clock, size(clock), turns(clock), edge(clock, clock[0])))

    def test_by_name(self):
        self.assertEqual(Clock(movers=((2, 2),), beats=3).form_now, SIX)
        self.assertEqual(Flat(beats=6).form_now, FLAT)
        one = Clock(3, ((2, 2),))
        self.assertEqual(one(beat=2, move=(1, 1)), 2)
        self.assertEqual(Flat(6).shift_of(many=7), (1, 0))
        self.assertEqual(Clock.read(text="clock 7 3 2").form_now, SEVEN)

    def test_errors_of_the_checker(self):
        self.assert_raises(InvalidPaper, ("beats", -1), Clock, True, ())
        self.assert_raises(InvalidPaper, ("beats", -1), Clock, None, None)
        self.assert_raises(InvalidPaper, ("movers", -1), Clock, 3, [])
        self.assert_raises(InvalidPaper, ("pair", 0), Clock, 3, (2,))
        self.assert_raises(InvalidPaper, ("mover", 0), Clock, 3, ((3, 1),))
        self.assert_raises(InvalidPaper, ("root", 1), Clock, 7, ((2, 1), (3, 3)))
        self.assert_raises(InvalidPaper, ("size", -1), Clock, 31, ((2, 1),))
        for beats in [None, True, 0, 4, 60, 61, "6", [6], (6,), -1]:
            self.assert_raises(InvalidPaper, ("beats", -1), Flat, beats)

    def test_moves_by_number(self):
        for clock in CLOCKS:
            one = Clock(*clock)
            self.assertEqual([one[k] for k in range(size(clock))], moves(clock))
            self.assertEqual((list(one), len(one)), (moves(clock), size(clock)))
        one = Clock(*SIX)
        for number in [6, -1, True, None, "0", (0,), 10 ** 59]:
            self.assert_raises(NotUsable, ("number", -1), lambda number=number: one[number])

    def test_calls(self):
        one = Clock(*SEVEN)
        self.assertEqual(one((3, 1), 5), 6)
        self.assert_raises(NotUsable, ("move", -1), one, (7, 0), 9)
        self.assert_raises(NotUsable, ("move", -1), one, [0, 0], 0)
        self.assert_raises(NotUsable, ("beat", -1), one, (3, 1), 7)
        self.assert_raises(NotUsable, ("beat", -1), one, move=(3, 1), beat=True)

    def test_folded(self):
        for clock in CLOCKS:
            for part in kept_parts(clock):
                folded = Clock(*clock) // part
                self.assertIs(folded.__class__, Clock)
                self.assertEqual(folded.form_now, folded_clock(clock, part))
        self.assertIs((Flat(6) // (2, 1, 0)).__class__, Clock)
        for part in [(1, 2, 0), (1, 2, 3), None, [3, 1, 0], True]:
            self.assert_raises(NotUsable, ("part", -1), lambda part=part: Clock(*SIX) // part)

    def test_all_then(self):
        rng = dice(7)
        for clock in CLOCKS:
            one = Clock(*clock)
            self.assertEqual(one.all_then(), (0, 0))
            some = [drawn_move(clock, rng) for _ in range(6)]
            result = (0, 0)
            for move in some:
                result = then(clock, result, move)
            self.assertEqual(one.all_then(*some), result)
        one = Clock(*SIX)
        for wrong in [(3, 0), None, [0, 0], (True, 0), ()]:
            self.assert_raises(NotUsable, ("moves", -1), one.all_then, (0, 0), wrong)

    def test_moves_in_it(self):
        one = Clock(*SIX)
        for thing in moves(SIX):
            self.assertIs(thing in one, True)
        for thing in [*JUNK, (3, 0), (0, 2), (True, 1), (1, False), [1, 1], nested(30, tuple), one]:
            self.assertIs(thing in one, False)

    def test_lines(self):
        self.assertEqual([str(Clock(*SEVEN)), str(Flat(6)), str(Clock(1, ()))], ["clock 7 3 2", "clock 6", "clock 1"])
        one = Clock.read("clock 7 3 2")
        self.assertEqual((one.__class__, one.form_now), (Clock, SEVEN))
        self.assert_raises(InvalidText, (0, 3), Clock.read, "clock 3 2")
        self.assert_raises(NotUsable, ("text", -1), Clock.read, None)
        self.assert_raises(NotUsable, ("text", -1), Clock.read, ["clock 3"])

    def test_equal(self):
        self.assertTrue(Clock(6, ()) == Flat(6) and Flat(6) == Clock(6, ()) and Flat(6) == Flat(6))
        self.assertFalse(Clock(6, ()) != Flat(6))
        self.assertTrue(Clock(*SIX) == Clock(*SIX) and Clock(*SIX) != Clock(*LOOSE) and Flat(2) != Flat(3))
        for thing in [SIX, None, True, 6, "clock 6", [], (6, ())]:
            self.assertIs(Flat(6) == thing, False)
            self.assertIs(Flat(6) != thing, True)
        self.assertIs(Clock(*SIX).__eq__(Same()), False)

    def test_derived_classes(self):
        class Own(Flat):
            pass

        self.assertTrue(Own(6) == Clock(6, ()) and Clock(6, ()) == Own(6))
        self.assertIs((Own(6) // (3, 1, 0)).__class__, Clock)

    def test_flat(self):
        one = Flat(6)
        self.assertIsInstance(one, Clock)
        self.assertEqual([one.form_now, one.turns_now, one.edge_now], [FLAT, 1, 1])
        self.assertEqual([one.shift_of(k) for k in (-7, -6, 0, 5, 6, 10 ** 59)],
                         [(5, 0), (0, 0), (0, 0), (5, 0), (0, 0), (10 ** 59 % 6, 0)])
        self.assertEqual(Flat(1).shift_of(5), (0, 0))
        for many in [None, True, "1", [1], (1,)]:
            self.assert_raises(NotUsable, ("many", -1), one.shift_of, many)

    def test_a_clock_stays_as_it_is(self):
        one = Clock(*SEVEN)
        before = (one.form_now, list(one), str(one))
        one((1, 1), 2), one.all_then((1, 0)), one // (7, 1, 0), (0, 0) in one
        self.assert_raises(NotUsable, ("part", -1), lambda: one // None)
        list(one).clear()
        self.assertEqual((one.form_now, list(one), str(one)), before)


if __name__ == "__main__":
    unittest.main()
