"""What can come after many deals of a set of moves; its reach, its home and its period."""

import unittest

from calls import all_triples, some_move_sets
from evenlater.clockparts import coset_of, part_moves, part_size
from evenlater.coming import come_after, come_sizes
from evenlater.homes import home_of, period_of, reach_of, settles_after
from samples import CLOCKS, FLAT, LOOSE, POINT, SEVEN, SIX, SMALL_CLOCKS, back, closed, dice, divisors, drawn_move, moves
from samples import size, then, turned, turns

TIPS = ((0, 1), (1, 1))


def walked(clock, some, many):
    """What can come after 0, 1, .., many deals, by own walks."""
    rows = [{(0, 0)}]
    for _ in range(many):
        rows.append({then(clock, g, h) for g in rows[-1] for h in some})
    return rows


def cosets_for(clock, some, rng):
    """Sets within one coset of a part, so that their homes are small and their periods long."""
    found = []
    for part in all_triples(clock)[::3]:
        coset = coset_of(clock, part, drawn_move(clock, rng))
        found.append(tuple(sorted(rng.sample(coset, min(len(coset), some)))))
    return found


def each(seed, clocks=SMALL_CLOCKS):
    rng = dice(seed)
    for clock in clocks:
        sets = [*some_move_sets(clock), *cosets_for(clock, 2, rng), *cosets_for(clock, 60, rng)]
        one_turn = tuple(sorted((x, turns(clock) - 1) for x in range(0, clock[0], 2)))
        for some in sorted({*sets, one_turn}):
            yield clock, some


def own_home(clock, some):
    """The moves of the home, by trying all parts as the definition has it."""
    reach = set(closed(clock, some))
    found = []
    for part in all_triples(clock):
        inside = set(part_moves(clock, part))
        if inside <= reach and all(then(clock, g, back(clock, some[0])) in inside for g in some):
            if all(turned(clock, h, g) in inside for h in inside for g in reach):
                found.append(inside)
    least = min(found, key=len)
    assert all(least <= other for other in found)
    return tuple(sorted(least))


class Coming(unittest.TestCase):
    def test_own_walks(self):
        for clock, some in each(261):
            for many, row in enumerate(walked(clock, some, 7)):
                self.assertEqual(come_after(clock, some, many), tuple(sorted(row)))

    def test_sizes(self):
        longest = 0
        for clock, some in each(262, CLOCKS):
            sizes = [len(row) for row in walked(clock, some, size(clock) + 2)][1:]
            stays = next(k for k in range(len(sizes)) if sizes[k + 1] == sizes[k])
            self.assertEqual(come_sizes(clock, some), tuple(sizes[:stays + 1]))
            self.assertEqual(settles_after(clock, some), stays + 1)
            self.assertTrue(all(sizes[k] < sizes[k + 1] for k in range(stays)))
            self.assertEqual(set(sizes[stays:]), {sizes[stays]})
            self.assertEqual(sizes[stays], part_size(clock, home_of(clock, some)))
            longest = max(longest, stays)
        self.assertGreater(longest, 5)

    def test_a_hundred_deals(self):
        for clock, some in each(263, [SIX, SEVEN, LOOSE, POINT, (30, ()), (7, ((2, 6), (3, 2)))]):
            rows = walked(clock, some, 100)
            for many in (0, 1, 50, 99, 100):
                self.assertEqual(come_after(clock, some, many), tuple(sorted(rows[many])))

    def test_those_of_two_numbers_joined(self):
        for clock, some in each(264, [SIX, SEVEN, FLAT]):
            for j, k in [(0, 3), (2, 3), (4, 1), (20, 17)]:
                first, second = come_after(clock, some, j), come_after(clock, some, k)
                both = sorted({then(clock, g, h) for g in first for h in second})
                self.assertEqual(come_after(clock, some, j + k), tuple(both))

    def test_one_move_and_all_moves(self):
        for clock in CLOCKS:
            every = tuple(sorted(moves(clock)))
            self.assertEqual([come_after(clock, every, 0), come_after(clock, every, 1), come_sizes(clock, every)],
                             [((0, 0),), every, (size(clock),)])
            move = drawn_move(clock, dice(265))
            self.assertEqual([come_after(clock, (move,), 1), come_sizes(clock, (move,))], [(move,), (1,)])
        self.assertEqual([come_after(POINT, ((0, 0),), 100), come_sizes(POINT, ((0, 0),))], [((0, 0),), (1,)])
        self.assertEqual(come_after(many=3, moves=TIPS, clock=SIX), ((0, 1), (1, 1), (2, 1)))

    def test_two_shifts_grow_one_by_one(self):
        for clock in [(30, ()), (42, ()), (59, ()), (1, ((59, 1),))]:
            some = ((0, 0), (0, 1)) if clock[0] == 1 else ((0, 0), (1, 0))
            self.assertEqual(come_sizes(clock, some), tuple(range(2, size(clock) + 1)))
            self.assertEqual(settles_after(clock, some), size(clock) - 1)


class Homes(unittest.TestCase):
    def test_by_the_definition(self):
        told = set()
        for clock, some in each(271):
            reach, home = reach_of(clock, some), home_of(clock, some)
            self.assertIn(reach, all_triples(clock))
            self.assertIn(home, all_triples(clock))
            self.assertEqual(part_moves(clock, reach), closed(clock, some))
            self.assertEqual(part_moves(clock, home), own_home(clock, some))
            period = period_of(clock, some)
            self.assertEqual(period * part_size(clock, home), part_size(clock, reach))
            told.add(period)
        self.assertLessEqual({1, 2, 3, 6, 7}, told)

    def test_what_can_come_is_a_coset_repeated_with_the_period(self):
        for clock, some in each(272, CLOCKS[:16]):
            home, period, start = home_of(clock, some), period_of(clock, some), settles_after(clock, some)
            rows = [come_after(clock, some, start + k) for k in range(period + 1)]
            self.assertEqual(rows[0], coset_of(clock, home, rows[0][0]))
            self.assertEqual(rows[period], rows[0])
            self.assertEqual(len(set(rows)), period)
            if (0, 0) in some:
                self.assertEqual(period, 1)

    def test_single_moves(self):
        for clock in SMALL_CLOCKS:
            for move in moves(clock):
                order = len(closed(clock, [move]))
                self.assertEqual([part_size(clock, reach_of(clock, (move,))), home_of(clock, (move,)),
                                  period_of(clock, (move,)), settles_after(clock, (move,))],
                                 [order, (1, 1, 0), order, 1])

    def test_moves_of_one_turn_only(self):
        for clock in CLOCKS:
            for turn in divisors(turns(clock))[:3]:
                some = tuple((x, turn % turns(clock)) for x in range(clock[0]))
                self.assertEqual(home_of(clock, some), (clock[0], 1, 0))
                self.assertEqual(reach_of(clock, some)[0], clock[0])

    def test_all_moves(self):
        for clock in CLOCKS:
            whole = clock[0], turns(clock), 0
            every = tuple(sorted(moves(clock)))
            self.assertEqual([reach_of(clock, every), home_of(clock, every), period_of(clock, every)], [whole, whole, 1])
        self.assertEqual([reach_of(moves=TIPS, clock=SIX), home_of(moves=TIPS, clock=SIX)], [(3, 2, 0), (3, 1, 0)])
        self.assertEqual([period_of(moves=TIPS, clock=SEVEN), settles_after(moves=TIPS, clock=SEVEN)], [3, 3])


if __name__ == "__main__":
    unittest.main()
