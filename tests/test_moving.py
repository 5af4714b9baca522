"""Moves and classes."""

import unittest

from evenlater.classes import class_of, classes_of
from evenlater.moving import all_moves, back_of, factor_at, move_at, moved_times, number_of, order_of, takes, then
from evenlater.moving import turned_by
from samples import CLOCKS, LOOSE, POINT, PRIMES, SEVEN, SIX, all_clocks, back, dice, drawn_move, factor, moves, size
from samples import then as plain_then
from samples import turned, turns
from math import gcd


class Moving(unittest.TestCase):
    def test_factors(self):
        for clock in all_clocks():
            for turn in range(turns(clock)):
                self.assertEqual(factor_at(clock, turn), factor(clock, turn))
        self.assertEqual([factor_at(POINT, 0), factor_at((1, ((2, 1),)), 1), factor_at((2, ()), 0)], [0, 0, 1])

    def test_numbers(self):
        for clock in all_clocks():
            self.assertEqual(all_moves(clock), tuple(moves(clock)))
            for number, move in enumerate(moves(clock)):
                self.assertEqual((number_of(clock, move), move_at(clock, number)), (number, move))

    def test_then_and_backs(self):
        rng = dice(2)
        for clock in CLOCKS:
            for _ in range(40):
                one, other, third = (drawn_move(clock, rng) for _ in range(3))
                self.assertEqual(then(clock, one, other), plain_then(clock, one, other))
                left = then(clock, then(clock, one, other), third)
                self.assertEqual(left, then(clock, one, then(clock, other, third)))
                self.assertEqual(back_of(clock, one), back(clock, one))
                self.assertEqual(then(clock, back_of(clock, one), one), (0, 0))
                self.assertEqual(turned_by(clock, one, other), turned(clock, one, other))

    def test_takes_beats_one_then_the_next(self):
        rng = dice(4)
        for clock in CLOCKS:
            for _ in range(20):
                one, other, beat = drawn_move(clock, rng), drawn_move(clock, rng), rng.randrange(clock[0])
                self.assertEqual(takes(clock, one, beat), (factor(clock, one[1]) * beat + one[0]) % clock[0])
                both = takes(clock, then(clock, one, other), beat)
                self.assertEqual(both, takes(clock, other, takes(clock, one, beat)))
        self.assertEqual(takes(POINT, (0, 0), 0), 0)

    def test_moved_times(self):
        rng = dice(5)
        for clock in CLOCKS:
            move = drawn_move(clock, rng)
            ahead = backward = (0, 0)
            for many in range(25):
                self.assertEqual(moved_times(clock, move, many), ahead)
                self.assertEqual(moved_times(clock, move, -many), backward)
                ahead, backward = then(clock, ahead, move), then(clock, backward, back(clock, move))
        self.assertEqual(moved_times(SIX, (1, 0), 10 ** 59), (10 ** 59 % 3, 0))
        self.assertEqual(moved_times(SIX, (1, 0), -(10 ** 59)), (-(10 ** 59) % 3, 0))

    def test_order_as_the_document_tells(self):
        for clock in all_clocks():
            for shift, turn in moves(clock):
                told = turns(clock) // gcd(turns(clock), turn)
                for prime in [q for q in PRIMES if clock[0] % q == 0]:
                    if shift % prime != 0 and factor(clock, turn) % prime == 1:
                        told *= prime
                self.assertEqual(order_of(clock, (shift, turn)), told)
        self.assertEqual([order_of(POINT, (0, 0)), order_of(LOOSE, (1, 1)), order_of(SEVEN, (1, 1))], [1, 6, 3])


class Classes(unittest.TestCase):
    def test_classes(self):
        for clock in CLOCKS:
            every = moves(clock)
            told = set()
            for move in every:
                plain = tuple(sorted({turned(clock, move, by) for by in every}))
                told.add(plain)
                self.assertEqual(class_of(clock, move), plain)
            self.assertEqual(classes_of(clock), tuple(sorted(told)))
            self.assertEqual(sum(len(some) for some in told), size(clock))

    def test_one_beat_and_no_movers(self):
        self.assertEqual(classes_of(POINT), (((0, 0),),))
        self.assertEqual(classes_of((2, ())), (((0, 0),), ((1, 0),)))
        self.assertEqual(classes_of(LOOSE), tuple((move,) for move in sorted(moves(LOOSE))))


if __name__ == "__main__":
    unittest.main()
