"""Waits, and the checker of their tables."""

import unittest
from fractions import Fraction

from calls import BAD_PLAINS, BAD_QUOTIENTS, even_of, idle_of, plain_deals, zero_of
from evenlater.dealclasses import Deal
from evenlater.dealing import dealt_again
from evenlater.dealmaking import deal_on, even_on
from evenlater.dealsums import scaled, taken
from evenlater.errors import InvalidPaper, NotUsable
from evenlater.firsts import first_row
from evenlater.mirrors import mirrored
from evenlater.quotients import quotient_of
from evenlater.recalls import recall_of
from evenlater.waitchecker import lets_waits
from evenlater.waits import mean_wait, return_wait, wait_for, wait_table
from samples import CLOCKS, FLIP, JUNK, LOOSE, POINT, SEVEN, SIX, SLIPS, back, closed, dice, drawn_deal, moves, size, then
from test_recalls import LARGE
from test_spreads import chances, pair

TINY = [POINT, (1, ((2, 1),)), SIX, (6, ()), LOOSE, (1, ((2, 1), (3, 1))), (10, ()), (7, ((2, 6),)), SEVEN]


def drawn_plain(clock, rng, most):
    _, weights = drawn_deal(clock, rng, most)
    return 1, (*[abs(weight) for weight in weights[1:]], 1)


def each(seed, clocks=TINY):
    rng = dice(seed)
    for clock in clocks:
        parts = [even_on(clock, (clock[0], 1, 0)), even_on(clock, (1, size(clock) // clock[0], 0))]
        pairs = [deal_on(clock, tuple(sorted({rng.choice(moves(clock)) for _ in range(2)}))) for _ in range(3)]
        for deal in [*plain_deals(clock), *parts, *pairs, drawn_plain(clock, rng, 9)]:
            if len(str(deal)) < 300:
                yield clock, deal


def own_sum(clock, deal, table, move):
    """What the equation of a move asks of its wait."""
    every = moves(clock)
    total = Fraction(1)
    for s, chance in zip(every, chances(deal)):
        if chance:
            total += chance * Fraction(*table[every.index(then(clock, back(clock, s), move))])
    return total


class Waits(unittest.TestCase):
    def test_they_fit_into_their_equations(self):
        for clock, deal in each(331):
            table, every = wait_table(clock, deal), moves(clock)
            reach = closed(clock, [g for g, weight in zip(every, deal[1]) if weight])
            self.assertEqual((table.__class__, len(table)), (tuple, size(clock)))
            for move, wait in zip(every, table):
                self.assertEqual(wait_for(clock, deal, move), wait)
                if move not in reach:
                    self.assertIsNone(wait)
                elif move == (0, 0):
                    self.assertEqual(wait, (0, 1))
                else:
                    self.assertEqual(Fraction(*wait), own_sum(clock, deal, table, move))
                    self.assertEqual(wait.__class__, tuple)
            waits = [Fraction(*wait) for wait in table if wait]
            self.assertEqual(mean_wait(clock, deal), pair(sum(waits) / len(reach)))
            self.assertEqual((return_wait(clock, deal), return_wait(clock, deal).__class__), (len(reach), int))

    def test_the_mean_of_what_is_drawn(self):
        """The sum of k times the chance of a first time after k comes near to the wait."""
        for deal in [SLIPS, (1, (1, 1, 1, 1, 1, 4)), FLIP]:
            for move, wait in zip(moves(SIX), wait_table(SIX, deal)):
                if wait is not None:
                    row = first_row(SIX, deal, move, 200)
                    mean = sum(k * Fraction(*chance) for k, chance in enumerate(row))
                    self.assertTrue(0 <= Fraction(*wait) - mean < Fraction(1, 1000))

    def test_recalls_tell_them(self):
        for clock, deal in each(332):
            one = scaled(clock, deal, quotient_of(deal[0], sum(deal[1])))
            recall = recall_of(clock, taken(clock, idle_of(clock), one))
            weights = [Fraction(weight, recall[0]) for weight in recall[1]]
            for k, wait in enumerate(wait_table(clock, deal)):
                if wait is not None:
                    self.assertEqual(Fraction(*wait), return_wait(clock, deal) * (weights[0] - weights[k]))

    def test_mirrors_and_coming_back(self):
        for clock, deal in each(333):
            table, every = wait_table(clock, deal), moves(clock)
            mirror = wait_table(clock, mirrored(clock, deal))
            self.assertEqual([mirror[every.index(back(clock, move))] for move in every], list(table))
            again = 1 + sum(chance * Fraction(*table[every.index(back(clock, move))])
                            for move, chance in zip(every, chances(deal)) if chance)
            self.assertEqual(again, return_wait(clock, deal))

    def test_one_move_even_deals_and_single_moves(self):
        self.assertEqual([wait_table(POINT, (3, (5,))), mean_wait(POINT, (3, (5,))), return_wait(POINT, (3, (5,)))],
                         [((0, 1),), (0, 1), 1])
        for clock in TINY:
            n = size(clock)
            for deal in (even_of(clock), even_of(clock, 7)):
                self.assertEqual(wait_table(clock, deal), ((0, 1),) + ((n, 1),) * (n - 1))
            self.assertEqual(wait_table(clock, idle_of(clock)), ((0, 1),) + (None,) * (n - 1))
        self.assertEqual(wait_table(LOOSE, (1, (0, 0, 0, 0, 1, 0))),
                         ((0, 1), (4, 1), (2, 1), (3, 1), (1, 1), (5, 1)))
        self.assertEqual([wait_for(move=(0, 1), deal=FLIP, clock=SIX), wait_for(SIX, FLIP, (1, 0))], [(2, 1), None])

    def test_return_waits_are_for_every_clock(self):
        for clock in CLOCKS:
            for deal in plain_deals(clock):
                known = [g for g, weight in zip(moves(clock), deal[1]) if weight]
                self.assertEqual(return_wait(clock, deal), len(closed(clock, known)))

    def test_forty_two_moves(self):
        rng = dice(334)
        for clock in LARGE:
            for deal in (drawn_plain(clock, rng, 99), (1, (1, 99) + (0,) * 39 + (2,))):
                table = wait_table(clock, deal)
                self.assertEqual(lets_waits(clock, deal, table), mean_wait(clock, deal))
                for move in moves(clock)[1::9]:
                    if wait_for(clock, deal, move):
                        self.assertEqual(Fraction(*wait_for(clock, deal, move)), own_sum(clock, deal, table, move))

    def test_figures_at_their_limit(self):
        rng = dice(335)
        for clock, figures in [(POINT, 30), (SIX, 20), (LOOSE, 20), ((15, ((2, 14),)), 4), ((10, ()), 12)]:
            deal = drawn_plain(clock, rng, 10 ** figures - 1)
            self.assertEqual(lets_waits(clock, deal, wait_table(clock, deal)), mean_wait(clock, deal))
        deal = dealt_again(SIX, SLIPS, 4)
        self.assertEqual(wait_table(SIX, deal), wait_table(SIX, even_of(SIX)))


class Checker(unittest.TestCase):
    def assert_invalid(self, word, at, thing, deal=SLIPS, clock=SIX):
        with self.assertRaises(InvalidPaper) as caught:
            lets_waits(clock, deal, thing)
        self.assertEqual((caught.exception.word, caught.exception.at), (word, at))

    def test_tables(self):
        for clock, deal in each(341):
            self.assertEqual(lets_waits(clock, deal, wait_table(clock, deal)), mean_wait(clock, deal))

    def first_sum(self, clock, deal, table):
        """The number of the first move whose equation does not hold."""
        for k, move in enumerate(moves(clock)):
            if table[k] is not None:
                told = Fraction(0) if k == 0 else own_sum(clock, deal, table, move)
                if Fraction(*table[k]) != told:
                    return k
        return None

    def test_tables_bent_at_each_place(self):
        for clock, deal in each(342, TINY[:7]):
            table = wait_table(clock, deal)
            for k in range(size(clock)):
                for wait in (None, (1, 2), (0, 1), (10 ** 59, 7), (-1, 1), (1, 10 ** 59)):
                    bent = table[:k] + (wait,) + table[k + 1:]
                    if (wait is None) != (table[k] is None):
                        self.assert_invalid("reach", k, bent, deal, clock)
                    elif wait != table[k]:
                        self.assert_invalid("sum", self.first_sum(clock, deal, bent), bent, deal, clock)
                for wait in [*BAD_QUOTIENTS[1:], 0, False, [], "0"]:
                    self.assert_invalid("wait", k, table[:k] + (wait,) + table[k + 1:], deal, clock)

    def test_what_is_said_first(self):
        table = wait_table(SIX, FLIP)
        self.assertEqual(table, ((0, 1), None, None, (2, 1), None, None))
        self.assert_invalid("reach", 1, ((0, 1), (3, 1), 7, (2, 1), None, None), FLIP)
        self.assert_invalid("wait", 1, ((0, 1), 7, (3, 1), (2, 1), None, None), FLIP)
        self.assert_invalid("reach", 0, (None, 7, None, (2, 1), None, None), FLIP)
        self.assert_invalid("reach", 5, ((1, 1), None, None, (9, 1), None, (1, 1)), FLIP)
        self.assert_invalid("sum", 0, ((1, 1), None, None, (9, 1), None, None), FLIP)
        self.assert_invalid("sum", 3, ((0, 1), None, None, (9, 1), None, None), FLIP)
        self.assert_invalid("wait", 0, ((False, 1), None, None, (2, 1), None, None), FLIP)
        # all waits of the reach longer by one: only the idle move tells
        self.assert_invalid("sum", 0, ((1, 1), None, None, (3, 1), None, None), FLIP)

    def test_shape(self):
        table = wait_table(SIX, SLIPS)
        for thing in [*JUNK, (), table[:5], (*table, (0, 1)), list(table), "table", (table,), Deal(SIX, SLIPS), SLIPS, 6]:
            self.assert_invalid("shape", -1, thing)

    def test_one_move(self):
        self.assertEqual(lets_waits(POINT, (3, (5,)), ((0, 1),)), (0, 1))
        self.assert_invalid("sum", 0, ((1, 1),), (3, (5,)), POINT)
        self.assert_invalid("reach", 0, (None,), (3, (5,)), POINT)

    def test_largest_clocks(self):
        for clock in [clock for clock in CLOCKS if size(clock) > 50]:
            n = size(clock)
            table = ((0, 1),) + ((n, 1),) * (n - 1)
            self.assertEqual(lets_waits(thing=table, deal=even_of(clock), clock=clock), (n - 1, 1))
            self.assert_invalid("sum", 1, table[:n - 1] + ((n + 1, 1),), even_of(clock), clock)
            last = (1, (0,) * (n - 1) + (1,))
            told = [None] * n
            move = (0, 0)
            for k in range(return_wait(clock, last)):
                told[moves(clock).index(move)] = (k, 1)
                move = then(clock, move, moves(clock)[-1])
            self.assertEqual(lets_waits(clock, last, tuple(told)), pair(Fraction(return_wait(clock, last) - 1, 2)))

    def test_deals_come_first(self):
        for bad in [*BAD_PLAINS, zero_of(SIX)]:
            with self.assertRaises(NotUsable) as caught:
                lets_waits(SIX, bad, None)
            self.assertEqual((caught.exception.word, caught.exception.at), ("deal", -1))


if __name__ == "__main__":
    unittest.main()
