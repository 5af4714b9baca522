"""Sets of moves that fill the clock, parts that do, and sets with one move of each coset."""

import unittest
from collections import Counter
from itertools import combinations

from calls import all_triples, some_move_sets
from evenlater.choosers import chooser_of, is_chooser
from evenlater.clockparts import cosets_of, part_moves
from evenlater.dealing import dealt
from evenlater.dealmaking import deal_on
from evenlater.evenness import first_crowded
from evenlater.filling import covers, fills
from evenlater.partfills import part_fillers, parts_full
from evenlater.partranks import parts_cover
from samples import CLOCKS, FLAT, LOOSE, POINT, SEVEN, SIX, SMALL_CLOCKS, all_clocks, dice, drawn_move, moves, size
from samples import then

ODD = ((0, 0), (1, 0), (2, 1))


def ways(clock, some, others):
    """By all pairs, in how many ways each move comes."""
    found = Counter(then(clock, g, h) for g in some for h in others)
    return [found[move] for move in moves(clock)]


def judge_pair(case, clock, some, others):
    own = ways(clock, some, others)
    case.assertIs(fills(clock, some, others), all(many == 1 for many in own))
    case.assertIs(covers(clock, some, others), all(many >= 1 for many in own))
    return min(own), max(own)


def part_prime_sizes(clock, part):
    """The primes of the size of a part."""
    return {p for p in range(2, 60) if all(p % k for k in range(2, p)) and part[0] * part[1] % p == 0}


class Filling(unittest.TestCase):
    def test_all_pairs_of_sets_of_a_small_clock(self):
        for clock in [SIX, FLAT, LOOSE]:
            every, told = sorted(moves(clock)), set()
            sets = [some for many in range(1, 4) for some in combinations(every, many)]
            for at, some in enumerate(sets):
                for others in sets[at % 3::3]:
                    told.add(judge_pair(self, clock, some, others))
            self.assertLessEqual({(0, 1), (1, 1), (1, 2)}, told)

    def test_drawn_sets(self):
        rng = dice(251)
        for clock in CLOCKS:
            for some in some_move_sets(clock):
                others = tuple(sorted({drawn_move(clock, rng) for _ in range(size(clock) * 2 // len(some) + 1)}))
                judge_pair(self, clock, some, others)
                judge_pair(self, clock, others, some)

    def test_one_move_and_all_moves(self):
        for clock in CLOCKS:
            every, single = tuple(sorted(moves(clock))), (drawn_move(clock, dice(252)),)
            self.assertEqual([fills(clock, every, single), fills(clock, single, every)], [True, True])
            self.assertEqual([covers(clock, every, every), fills(clock, every, every)], [True, size(clock) == 1])
            self.assertIs(covers(clock, single, single), size(clock) == 1)
        self.assertEqual([fills(others=ODD, moves=((0, 0), (0, 1)), clock=SIX), fills(SIX, ODD, ((0, 0), (0, 1)))],
                         [True, False])

    def test_products_of_deals(self):
        rng, told = dice(253), []
        for clock in SMALL_CLOCKS:
            for part in all_triples(clock):
                some, others = part_moves(clock, part), chooser_of(clock, part)
                for pair in [(some, others), (others, some), (some, tuple(sorted({drawn_move(clock, rng) for _ in others})))]:
                    deals = [deal_on(clock, known) for known in pair]
                    told.append(fills(clock, *pair))
                    self.assertIs(dealt(clock, *deals) == (1, (1,) * size(clock)), told[-1])
                    if told[-1]:
                        self.assertEqual(len(pair[0]) * len(pair[1]), size(clock))
                        self.assertIsNone(first_crowded(clock, *deals))
        self.assertGreater(min(told.count(True), told.count(False)), 15)


class Parts(unittest.TestCase):
    def test_they_are_those_that_fill(self):
        for clock in SMALL_CLOCKS:
            parts = sorted(all_triples(clock))
            for part in parts:
                found = tuple(other for other in parts
                              if fills(clock, part_moves(clock, part), part_moves(clock, other)))
                self.assertEqual(part_fillers(clock, part), found)
                for other in parts[:12]:
                    self.assertIs(parts_full(clock, part, other), other in found)

    def test_primes_of_the_sizes(self):
        for clock in all_clocks()[::9]:
            n = part_prime_sizes(clock, (size(clock), 1))
            parts = sorted(all_triples(clock))
            for part in parts[::5]:
                one = part_prime_sizes(clock, part)
                found = tuple(other for other in parts if one ^ part_prime_sizes(clock, other) == n
                              and not one & part_prime_sizes(clock, other))
                self.assertEqual(part_fillers(clock, part), found)

    def test_covers_of_parts(self):
        for clock in [SIX, FLAT, LOOSE, SEVEN]:
            for one in all_triples(clock):
                for other in all_triples(clock)[::2]:
                    self.assertIs(covers(clock, part_moves(clock, one), part_moves(clock, other)),
                                  parts_cover(clock, one, other))

    def test_edges(self):
        for clock in CLOCKS:
            whole = (clock[0], size(clock) // clock[0], 0)
            self.assertEqual(part_fillers(clock, whole), ((1, 1, 0),))
            self.assertEqual(part_fillers(clock, (1, 1, 0)), (whole,))
            self.assertIs(parts_full(clock, whole, whole), size(clock) == 1)
        self.assertEqual(part_fillers(POINT, (1, 1, 0)), ((1, 1, 0),))
        self.assertIs(parts_full(other=(3, 1, 0), one=(1, 2, 2), clock=SIX), True)


class Choosers(unittest.TestCase):
    def own_cosets(self, clock, part):
        inside = part_moves(clock, part)
        return {frozenset(then(clock, h, g) for h in inside) for g in moves(clock)}

    def test_own_cosets(self):
        for clock in SMALL_CLOCKS:
            number = {move: k for k, move in enumerate(moves(clock))}
            for part in all_triples(clock):
                cosets = self.own_cosets(clock, part)
                least = sorted(min(coset, key=number.get) for coset in cosets)
                self.assertEqual(chooser_of(clock, part), tuple(least))
                self.assertIs(is_chooser(clock, part, tuple(least)), True)

    def test_drawn_choosers(self):
        rng = dice(254)
        for clock in SMALL_CLOCKS:
            for part in all_triples(clock):
                cosets = sorted(sorted(coset) for coset in self.own_cosets(clock, part))
                drawn = sorted(rng.choice(coset) for coset in cosets)
                self.assertIs(is_chooser(clock, part, tuple(drawn)), True)
                self.assertIs(fills(clock, part_moves(clock, part), tuple(drawn)), True)
                if len(drawn) > 1:
                    self.assertIs(is_chooser(clock, part, tuple(drawn[1:])), False)
                if len(drawn) < size(clock):
                    more = rng.choice([move for move in moves(clock) if move not in drawn])
                    self.assertIs(is_chooser(clock, part, tuple(sorted([*drawn, more]))), False)
                    # as many moves, two of them of one coset
                    if len(drawn) > 1:
                        twice = sorted({*cosets[0][:2], *[move for coset in cosets[2:] for move in coset[:1]]})
                        self.assertIs(is_chooser(clock, part, tuple(twice)), False)

    def test_fills_exactly_if_it_is_a_chooser(self):
        for clock in [SIX, FLAT, LOOSE]:
            for part in all_triples(clock):
                many = len(cosets_of(clock, part))
                for some in combinations(sorted(moves(clock)), many):
                    self.assertIs(fills(clock, part_moves(clock, part), some), is_chooser(clock, part, some))

    def test_every_largest_clock(self):
        for clock in [(1, ((59, 1),)), (29, ((2, 28),)), (19, ((3, 7),)), (7, ((2, 6), (3, 2))), (30, ())]:
            for part in all_triples(clock)[::4]:
                chooser = chooser_of(clock, part)
                self.assertEqual(len(chooser) * part[0] * part[1], size(clock))
                self.assertIs(is_chooser(clock, part, chooser), True)
        self.assertEqual([chooser_of(part=(1, 2, 1), clock=SIX), is_chooser(moves=ODD, part=(1, 2, 0), clock=SIX)],
                         [((0, 0), (1, 0), (2, 0)), True])


if __name__ == "__main__":
    unittest.main()
