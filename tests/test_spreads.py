"""Chances after many deals, spreads, coming near to even, first times and visits."""

import unittest
from fractions import Fraction

from calls import BAD_PLAINS, even_of, idle_of, plain_deals
from evenlater.errors import NotUsable
from evenlater.firsts import first_at, first_row
from evenlater.homes import home_of
from evenlater.mirrors import mirrored
from evenlater.nearing import comes_near, least_after, near_after
from evenlater.spreads import chance_at, spread_after, spread_of
from evenlater.visits import visits_by
from evenlater.weighing import moves_of
from samples import CLOCKS, FLIP, POINT, SEVEN, SIX, SLIPS, back, dice, drawn_move, moves, own_dealt, size, then_table

TINY = [POINT, (1, ((2, 1),)), SIX, (6, ()), (3, ((2, 1),)), (1, ((2, 1), (3, 1))), (10, ()), (7, ((2, 6),)), SEVEN]


def pair(fraction):
    return fraction.numerator, fraction.denominator


def chances(deal):
    return [Fraction(weight, sum(deal[1])) for weight in deal[1]]


def own_powers(clock, deal, many):
    """The chances of all moves after 0, 1, .., many deals, by own sums."""
    rows, step = [chances(idle_of(clock))], chances(deal)
    table = then_table(clock)
    for _ in range(many):
        row = [Fraction(0)] * size(clock)
        for g, left in enumerate(rows[-1]):
            for k, right in enumerate(step):
                row[table[g][k]] += left * right
        rows.append(row)
    return rows


def own_firsts(clock, deal, target, many):
    """The chances of a move for the first time, by following all that is drawn until it comes."""
    step, table = chances(deal), then_table(clock)
    row = chances(idle_of(clock))
    found = [row[target]]
    row[target] = Fraction(0)
    for _ in range(many):
        after = [Fraction(0)] * size(clock)
        for g, left in enumerate(row):
            for k, right in enumerate(step):
                after[table[g][k]] += left * right
        found.append(after[target])
        after[target] = Fraction(0)
        row = after
    return found


def each(clocks=TINY):
    for clock in clocks:
        for deal in plain_deals(clock):
            if len(str(deal)) < 300:
                yield clock, deal


class Spreads(unittest.TestCase):
    def test_own_powers(self):
        for clock, deal in each():
            for many, row in enumerate(own_powers(clock, deal, 4)):
                self.assertEqual([chance_at(clock, deal, move, many) for move in moves(clock)], list(map(pair, row)))
                self.assertEqual(spread_after(clock, deal, many), pair(max(row) - min(row)))
                self.assertEqual(least_after(clock, deal, many), pair(size(clock) * min(row)))
            row = chances(deal)
            self.assertEqual(spread_of(clock, deal), pair(max(row) - min(row)))

    def test_largest_clocks_and_long_weights(self):
        for clock in [clock for clock in CLOCKS if size(clock) >= 42]:
            for deal in plain_deals(clock):
                power = own_dealt(clock, deal, deal)
                row = chances(power)
                move = drawn_move(clock, dice(321))
                at = moves(clock).index(move)
                self.assertEqual(chance_at(clock, deal, move, 2), pair(row[at]))
                self.assertEqual(spread_after(clock, deal, 2), pair(max(row) - min(row)))
                self.assertEqual(least_after(clock, deal, 2), pair(size(clock) * min(row)))

    def test_the_power_to_zero(self):
        for clock, deal in each():
            self.assertEqual(spread_after(clock, deal, 0), (0 if size(clock) == 1 else 1, 1))
            self.assertEqual(least_after(clock, deal, 0), (1 if size(clock) == 1 else 0, 1))
            for move in moves(clock):
                self.assertEqual(chance_at(clock, deal, move, 0), (int(move == (0, 0)), 1))

    def test_forty_deals(self):
        for clock, deal in [(SIX, SLIPS), (SIX, FLIP), (POINT, (3, (2,))), ((59, ()), (1, (1, 2) + (0,) * 57))]:
            power = idle_of(clock)
            for _ in range(40):
                power = own_dealt(clock, power, deal)
            row = chances(power)
            self.assertEqual(chance_at(clock, deal, moves(clock)[-1], 40), pair(row[-1]))
            self.assertEqual(spread_after(clock, deal, 40), pair(max(row) - min(row)))
            self.assertEqual(least_after(many=40, deal=deal, clock=clock), pair(size(clock) * min(row)))

    def test_a_spread_never_grows_and_stays_or_comes_near(self):
        for clock, deal in each(TINY[:8]):
            spreads = [Fraction(*spread_after(clock, deal, many)) for many in range(1, 13)]
            self.assertEqual(spreads, sorted(spreads, reverse=True))
            home = home_of(clock, moves_of(clock, deal))
            if comes_near(clock, deal):
                self.assertEqual(home[0] * home[1], size(clock))
            else:
                self.assertGreaterEqual(spreads[-1], Fraction(1, home[0] * home[1]))
            leasts = [Fraction(*least_after(clock, deal, many)) for many in range(13)]
            self.assertEqual(leasts, sorted(leasts))
            self.assertTrue(0 <= leasts[0] and leasts[-1] <= 1)

    def test_near_after(self):
        told = set()
        for clock, deal in each(TINY[:7]):
            spreads = [max(row) - min(row) for row in own_powers(clock, deal, 8)]
            shares = [(0, 1), (1, 4), (1, 2), (1, 1), (-1, 3), (7, 10 ** 29), *map(pair, spreads[1:4])]
            for share in shares:
                for many in (0, 1, 3, 8):
                    found = [k for k in range(1, many + 1) if spreads[k] <= Fraction(*share)]
                    self.assertEqual(near_after(clock, deal, share, many), found[0] if found else None)
                    told.add(found[0] if found else None)
        self.assertLessEqual({None, 1, 2, 3}, told)
        self.assertEqual([near_after(many=40, share=(1, 4), deal=SLIPS, clock=SIX), near_after(SIX, FLIP, (1, 4), 40)],
                         [2, None])

    def test_comes_near_on_parts_and_on_moves_of_one_turn(self):
        self.assertEqual([comes_near(SIX, deal) for deal in (SLIPS, FLIP, even_of(SIX), idle_of(SIX), even_of(SIX, 5))],
                         [True, False, True, False, True])
        self.assertEqual([comes_near(SIX, (1, (0, 0, 0, 1, 2, 3))), comes_near(POINT, (9, (1,)))], [False, True])

    def test_the_first_bad_parameter(self):
        for bad in BAD_PLAINS:
            for function, more in [(chance_at, (None, None)), (spread_after, (-1,)), (near_after, ((2, 4), None)),
                                   (least_after, (True,)), (first_at, (None, None)), (first_row, (None, -1)),
                                   (visits_by, ((3, 0), None))]:
                with self.assertRaises(NotUsable) as caught:
                    function(SIX, bad, *more)
                self.assertEqual((caught.exception.word, caught.exception.at), ("deal", -1))
        for function, more, name in [(chance_at, ((3, 0), -1), "move"), (near_after, ((2, 4), -1), "share"),
                                     (first_row, ((0, True), None), "move"), (visits_by, ([0, 0], None), "move")]:
            with self.assertRaises(NotUsable) as caught:
                function(SIX, SLIPS, *more)
            self.assertEqual((caught.exception.word, caught.exception.at), (name, -1))


class Firsts(unittest.TestCase):
    def test_own_sums(self):
        for clock, deal in each():
            for at, move in list(enumerate(moves(clock)))[::max(1, size(clock) // 6)]:
                row = tuple(map(pair, own_firsts(clock, deal, at, 4)))
                self.assertEqual(first_row(clock, deal, move, 4), row)
                self.assertEqual([first_at(clock, deal, move, many) for many in range(5)], list(row))

    def test_the_idle_move(self):
        for clock, deal in each():
            self.assertEqual(first_row(clock, deal, (0, 0), 5), ((1, 1),) + ((0, 1),) * 5)
            self.assertEqual([first_at(clock, deal, (0, 0), 0), first_row(clock, deal, (0, 0), 0)], [(1, 1), ((1, 1),)])

    def test_chances_are_made_of_first_times(self):
        for clock, deal in each(TINY[:7]):
            powers = own_powers(clock, deal, 6)
            for at, move in enumerate(moves(clock)):
                firsts = [Fraction(*value) for value in first_row(clock, deal, move, 6)]
                for many in range(7):
                    total = sum(firsts[k] * powers[many - k][0] for k in range(many + 1))
                    self.assertEqual(total, powers[many][at])
                self.assertLessEqual(sum(firsts), 1)

    def test_backs_for_the_mirror(self):
        for clock, deal in each(TINY[:8]):
            for move in moves(clock)[:6]:
                self.assertEqual(first_row(clock, mirrored(clock, deal), back(clock, move), 5),
                                 first_row(clock, deal, move, 5))

    def test_forty_deals(self):
        row = first_row(SIX, SLIPS, (1, 0), 40)
        self.assertEqual(row, tuple(map(pair, own_firsts(SIX, SLIPS, 1, 40))))
        self.assertEqual([first_at(many=40, move=(1, 0), deal=SLIPS, clock=SIX), len(row)], [row[40], 41])
        clock, deal = (29, ((2, 28),)), (1, (1, 2, 0, 1) + (0,) * 54)
        self.assertEqual(first_at(clock, deal, (5, 0), 12), pair(own_firsts(clock, deal, 5, 12)[12]))


class Visits(unittest.TestCase):
    def test_own_sums(self):
        for clock, deal in each():
            powers = own_powers(clock, deal, 4)
            for at, move in list(enumerate(moves(clock)))[::max(1, size(clock) // 6)]:
                for many in range(5):
                    self.assertEqual(visits_by(clock, deal, move, many), pair(sum(row[at] for row in powers[:many + 1])))

    def test_all_moves_are_visited_once_a_deal(self):
        for clock, deal in each(TINY[:7]):
            self.assertEqual(sum(Fraction(*visits_by(clock, deal, move, 5)) for move in moves(clock)), 6)

    def test_edges(self):
        self.assertEqual([visits_by(SIX, SLIPS, (0, 0), 0), visits_by(SIX, SLIPS, (1, 0), 0)], [(1, 1), (0, 1)])
        self.assertEqual(visits_by(POINT, (2, (3,)), (0, 0), 40), (41, 1))
        powers = own_powers(SIX, SLIPS, 40)
        self.assertEqual(visits_by(many=40, move=(2, 1), deal=SLIPS, clock=SIX), pair(sum(row[5] for row in powers)))


if __name__ == "__main__":
    unittest.main()
