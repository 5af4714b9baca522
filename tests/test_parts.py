"""Parts, least parts and folding."""

import unittest

from calls import all_triples, kept_triples, some_move_sets, spots
from evenlater.clockchecker import lets_clock
from evenlater.clockparts import coset_of, cosets_of, in_part, is_kept, kept_parts, part_moves, part_size, parts_of
from evenlater.folding import folded_clock, folded_move
from evenlater.leastparts import common_part, least_part, turned_part
from evenlater.moving import takes
from evenlater.sizes import edge_of
from samples import CLOCKS, LOOSE, POINT, SEVEN, SIX, SMALL_CLOCKS, all_clocks, closed, dice, divisors, drawn_move
from samples import moves, size, then, turned, turns


class Parts(unittest.TestCase):
    def test_each_part_is_told_once(self):
        for clock in SMALL_CLOCKS:
            plain = {closed(clock, (one, other)) for one in moves(clock) for other in moves(clock)}
            plain |= {closed(clock, (*some, move)) for some in plain for move in moves(clock)}
            told = [part_moves(clock, part) for part in parts_of(clock)]
            self.assertEqual(sorted(told), sorted(plain))

    def test_triples_are_a_set(self):
        for clock in all_clocks():
            self.assertEqual(parts_of(clock), tuple(sorted(all_triples(clock))))
            self.assertEqual(kept_parts(clock), tuple(sorted(kept_triples(clock))))

    def test_moves_of_parts(self):
        for clock in CLOCKS:
            for part in parts_of(clock):
                some = part_moves(clock, part)
                self.assertEqual(some, tuple(sorted(some)))
                self.assertEqual((len(some), part_size(clock, part)), (part[0] * part[1],) * 2)
                self.assertEqual([move for move in sorted(moves(clock)) if in_part(clock, part, move)], list(some))

    def test_kept_parts_have_all_turned_moves(self):
        for clock in CLOCKS:
            for part in parts_of(clock):
                some = set(part_moves(clock, part))
                kept = all(turned(clock, move, by) in some for move in some for by in moves(clock))
                self.assertIs(is_kept(clock, part), kept)

    def test_cosets(self):
        for clock in SMALL_CLOCKS:
            for part in parts_of(clock):
                some = part_moves(clock, part)
                told = set()
                for move in moves(clock):
                    coset = tuple(sorted(then(clock, ahead, move) for ahead in some))
                    self.assertEqual(coset_of(clock, part, move), coset)
                    told.add(coset)
                self.assertEqual(cosets_of(clock, part), tuple(sorted(told)))
                self.assertEqual(len(told) * len(some), size(clock))

    def test_one_beat(self):
        self.assertEqual([parts_of(POINT), cosets_of(POINT, (1, 1, 0))], [((1, 1, 0),), (((0, 0),),)])


class LeastParts(unittest.TestCase):
    def test_least_part(self):
        for clock in CLOCKS:
            for some in some_move_sets(clock):
                self.assertEqual(part_moves(clock, least_part(clock, some)), closed(clock, some))
        self.assertEqual(least_part(SIX, ((0, 0),)), (1, 1, 0))

    def test_common_part(self):
        for clock in SMALL_CLOCKS:
            for one in parts_of(clock):
                for other in parts_of(clock):
                    both = set(part_moves(clock, one)) & set(part_moves(clock, other))
                    self.assertEqual(part_moves(clock, common_part(clock, one, other)), tuple(sorted(both)))

    def test_turned_part(self):
        for clock in CLOCKS:
            for part in parts_of(clock):
                for by in moves(clock)[::3]:
                    plain = tuple(sorted(turned(clock, move, by) for move in part_moves(clock, part)))
                    told = turned_part(clock, part, by)
                    self.assertEqual(part_moves(clock, told), plain)
                    a, f, spot = part
                    self.assertEqual(told, (a, f, takes(clock, by, spot) % spots(clock, a, f)))


class Folding(unittest.TestCase):
    def test_folded_clocks(self):
        for clock in all_clocks():
            for part in kept_parts(clock):
                folded = folded_clock(clock, part)
                self.assertEqual(lets_clock(folded), size(clock) // (part[0] * part[1]))
                self.assertEqual((folded[0], turns(folded)), (clock[0] // part[0], turns(clock) // part[1]))
                for a in divisors(folded[0]):
                    self.assertEqual(edge_of(folded, a), edge_of(clock, a))

    def test_roots(self):
        clock = (15, ((2, 11),))
        self.assertEqual(folded_clock(clock, (5, 1, 0)), (3, ((2, 2),)))
        self.assertEqual(folded_clock(clock, (3, 1, 0)), (5, ((2, 1),)))
        self.assertEqual(folded_clock(clock, (15, 1, 0)), (1, ((2, 1),)))
        self.assertEqual(folded_clock(clock, (15, 2, 0)), (1, ()))
        self.assertEqual(folded_clock(clock, (1, 1, 0)), clock)
        self.assertEqual(folded_clock(LOOSE, (1, 2, 0)), (3, ()))

    def test_one_then_other_folded(self):
        rng = dice(6)
        for clock in CLOCKS:
            for part in kept_parts(clock):
                folded = folded_clock(clock, part)
                for _ in range(20):
                    one, other = drawn_move(clock, rng), drawn_move(clock, rng)
                    left, right = folded_move(clock, part, one), folded_move(clock, part, other)
                    self.assertEqual(folded_move(clock, part, then(clock, one, other)), then(folded, left, right))

    def test_folded_to_one_exactly_in_one_coset(self):
        for clock in SMALL_CLOCKS:
            for part in kept_parts(clock):
                for coset in cosets_of(clock, part):
                    self.assertEqual(len({folded_move(clock, part, move) for move in coset}), 1)
                every = {folded_move(clock, part, move) for move in moves(clock)}
                self.assertEqual(len(every), len(cosets_of(clock, part)))

    def test_folded_move(self):
        self.assertEqual(folded_move(SEVEN, (7, 1, 0), (4, 2)), (0, 2))
        self.assertEqual(folded_move(SEVEN, (7, 3, 0), (4, 2)), (0, 0))
        self.assertEqual(folded_move(LOOSE, (1, 2, 0), (2, 1)), (2, 0))


if __name__ == "__main__":
    unittest.main()
