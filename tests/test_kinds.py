"""Kinds of values, the checker of clocks, and sizes."""

import unittest

from evenlater import kinds
from evenlater.clockchecker import lets_clock
from evenlater.clockclasses import Clock
from evenlater.errors import InvalidPaper
from evenlater.sizes import does_move, edge_of, last_edge, moves_many, turns_many
from samples import CLOCKS, FLAT, JUNK, LOOSE, POINT, PRIMES, SEVEN, SIX, all_clocks, divisors, edge, moves, nested
from samples import size, turns


class Kinds(unittest.TestCase):
    def judge(self, function, good, bad, *first):
        for thing in good:
            with self.subTest(function=function.__name__, good=repr(thing)[:60]):
                self.assertIs(function(*first, thing), True)
                self.assertIs(function(*first, thing=thing), True)
        for thing in bad:
            with self.subTest(function=function.__name__, bad=repr(thing)[:60]):
                self.assertIs(function(*first, thing), False)

    def test_integers_and_numbers(self):
        others = [None, True, False, "1", "", (), (1,), [1], [], nested(30, tuple), nested(30, list)]
        self.judge(kinds.is_integer, [0, 1, -1, 10 ** 59, -(10 ** 59), 10 ** 999], others)
        self.judge(kinds.is_number, [0, 1, 10 ** 59], [*others, -1, -(10 ** 59)])

    def test_quotients(self):
        good = [(0, 1), (1, 1), (-3, 4), (10 ** 59, 3), (-1, 10 ** 59)]
        bad = [0, (0, 2), (2, 4), (1, 0), (1, -1), (0, 0), (True, 1), (1, True), (False, 1), [1, 2], (1,), (1, 2, 3),
               ("1", 2), (1, None), ((1, 1), 2), *JUNK]
        self.judge(kinds.is_quotient, good, bad)

    def test_clocks(self):
        self.judge(kinds.is_clock, all_clocks(), [*JUNK, [3, ()], (3, []), (3, ((2, 2),), 0), Clock(3, ())])
        self.judge(kinds.is_clock, [], [(True, ()), (4, ()), (3, ((2, True),)), (3, ((3, 1),)), (3, ([2, 2],))])

    def test_moves(self):
        for clock in CLOCKS:
            bad = [(clock[0], 0), (0, turns(clock)), (-1, 0), (0, -1), (0, False), (False, 0), [0, 0], (0,), (0, 0, 0)]
            self.judge(kinds.is_move, moves(clock), [*bad, *JUNK, Clock(*clock)], clock)
        self.assertIs(kinds.is_move(SIX, (True, 1)), False)

    def test_sets_of_moves(self):
        good = [((0, 0),), ((0, 0), (0, 1)), ((0, 0), (0, 1), (1, 0), (1, 1), (2, 0), (2, 1))]
        bad = [(), [], [(0, 0)], ((0, 0), (0, 0)), ((1, 0), (0, 0)), ((0, 0), (3, 0)), ((0, 0), [1, 0]), (0, 0),
               ((0, 0), (True, 0)), ((0, 0), None), *JUNK]
        self.judge(kinds.is_moves, good, bad, SIX)

    def test_pieces(self):
        for clock in CLOCKS:
            pairs = [(a, b) for a in range(-1, clock[0] + 2) for b in range(-1, turns(clock) + 2)]
            for a, b in pairs:
                fine = a > 0 and b > 0 and clock[0] % a == 0 and turns(clock) % b == 0
                fine = fine and not any(b % q == 0 and edge(clock, a) % q == 0 for q in PRIMES)
                self.assertIs(kinds.is_piece(clock, (a, b)), fine)
        self.judge(kinds.is_piece, [], [(True, 1), (1, True), [1, 1], (1,), (1, 1, 1), *JUNK], SIX)

    def test_parts(self):
        good = [(1, 1, 0), (1, 2, 0), (1, 2, 1), (1, 2, 2), (3, 1, 0), (3, 2, 0)]
        triples = [(a, f, spot) for a in range(-1, 5) for f in range(-1, 4) for spot in range(-1, 5)]
        bad = [triple for triple in triples if triple not in good]
        bad += [[1, 1, 0], (1, 1), (1, 1, 0, 0), (1, True, 0), (1, 1, False), *JUNK]
        self.judge(kinds.is_part, good, bad, SIX)


class Checker(unittest.TestCase):
    def assert_fault(self, thing, word, at):
        for call in (lambda: lets_clock(thing), lambda: lets_clock(thing=thing)):
            with self.assertRaises(InvalidPaper) as caught:
                call()
            self.assertEqual((caught.exception.word, caught.exception.at), (word, at))

    def test_all_clocks_are_accepted(self):
        for clock in all_clocks():
            self.assertEqual(lets_clock(clock), size(clock))
        self.assertEqual([lets_clock(POINT), lets_clock((59, ())), lets_clock((29, ((2, 28),)))], [1, 59, 58])

    def test_shape(self):
        for thing in [None, True, 3, "clock", (), (3,), (3, (), ()), [3, ()], nested(30, tuple), nested(30, list)]:
            self.assert_fault(thing, "shape", -1)

    def test_beats(self):
        for beats in [None, True, False, 0, -1, -6, 4, 12, 50, 60, 61, 10 ** 59, "3", (3,), [3], nested(29, tuple)]:
            self.assert_fault((beats, None), "beats", -1)

    def test_movers(self):
        for movers in [None, 0, True, [], [(2, 2)], "()", nested(29, list)]:
            self.assert_fault((3, movers), "movers", -1)

    def test_pair(self):
        for pair in [None, 2, (), (2,), (2, 2, 2), [2, 2], "22"]:
            self.assert_fault((3, (pair, None)), "pair", 0)
            self.assert_fault((1, ((2, 1), pair)), "pair", 1)

    def test_mover(self):
        for mover in [None, True, 0, 1, -2, 3, 4, 9, 61, 10 ** 59, "2", (2,)]:
            self.assert_fault((3, ((mover, None),)), "mover", 0)
        for mover in [2, 3]:
            self.assert_fault((1, ((3, 1), (mover, None))), "mover", 1)

    def test_root(self):
        for root in [None, True, 0, -1, 3, 8, "1", (1,), 1 - 7]:
            self.assert_fault((7, ((3, root), None)), "root", 0)
        self.assert_fault((1, ((2, 0),)), "root", 0)
        self.assert_fault((1, ((2, 2),)), "root", 0)
        self.assert_fault((7, ((2, 6), (3, 6))), "root", 1)

    def test_earlier_elements_are_judged_first(self):
        self.assert_fault((7, ((3, 3), None)), "root", 0)
        self.assert_fault((7, ((3, 2), None)), "pair", 1)

    def test_size(self):
        for clock in [(31, ((2, 1),)), (59, ((2, 58),)), (1, ((2, 1), (3, 1), (11, 1))), (2, ((31, 1),))]:
            self.assert_fault(clock, "size", -1)
        # beats and movers share no prime, so no clock has just sixty moves: 59 is the most
        self.assertEqual(max(size(clock) for clock in all_clocks()), 59)


class Sizes(unittest.TestCase):
    def test_sizes(self):
        for clock in all_clocks():
            self.assertEqual((moves_many(clock), turns_many(clock)), (size(clock), turns(clock)))
            self.assertEqual(last_edge(clock), edge(clock, clock[0]))
            for a in divisors(clock[0]):
                self.assertEqual(edge_of(clock, a), edge(clock, a))

    def test_does_move(self):
        for clock in CLOCKS:
            for mover, root in clock[1]:
                for prime in [q for q in PRIMES if clock[0] % q == 0]:
                    self.assertIs(does_move(clock, mover, prime), root % prime != 1)
        self.assertEqual([does_move(SIX, 2, 3), does_move(LOOSE, 2, 3), does_move((15, ((2, 4),)), 2, 3)],
                         [True, False, False])

    def test_edges_of_the_examples(self):
        self.assertEqual([last_edge(SIX), last_edge(FLAT), last_edge(SEVEN), last_edge(LOOSE), edge_of(SEVEN, 1)],
                         [2, 1, 3, 1, 1])


if __name__ == "__main__":
    unittest.main()
