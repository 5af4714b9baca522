"""Ranks of deals, of even deals on parts, their checker, and deals of told ranks."""

import unittest
from itertools import product

from calls import BAD_DEALS, all_triples, even_of, idle_of, most_places, pieces, some_deals, zero_of
from evenlater.boards import board_table
from evenlater.clockparts import part_moves
from evenlater.dealing import dealt, dealt_again
from evenlater.dealmaking import even_on, single_deal
from evenlater.dealsums import added, scaled
from evenlater.errors import InvalidPaper, NotUsable
from evenlater.mirrors import mirrored
from evenlater.ones import at_piece, one_of
from evenlater.partranks import part_ranks, parts_cover, quiet_pieces
from evenlater.pieces import grain_at, pieces_of
from evenlater.rankmaking import deal_of_ranks
from evenlater.ranks import board_rank, free_many, is_ranks, lets_ranks, rank_at, ranks_of
from samples import CLOCKS, FLIP, JUNK, LOOSE, POINT, SEVEN, SIX, SLIPS, SMALL_CLOCKS, all_clocks, dice, drawn_deal, edge
from samples import moves, size, then
from samples import quick_rank
from test_boards import units

BOARD_CLOCKS = [clock for clock in CLOCKS if most_places(clock) <= 30]


def plain_ranks(clock, deal):
    """The ranks, from the definition: the tables' ranks are sums of rank times grain."""
    found = {}
    for a, b in sorted(pieces(clock)):
        under = [piece for piece in found if a % piece[0] == 0 and b % piece[1] == 0]
        left = quick_rank(board_table(clock, (a, b), deal)[1])
        left -= sum(found[piece] * grain_at(clock, piece) for piece in under)
        grain = units(a) * units(b) // edge(clock, a)
        assert left % grain == 0
        found[a, b] = left // grain
    return tuple(found[piece] for piece in pieces_of(clock))


def thin_deals(clock, rng):
    """Deals of small ranks: single moves added, products, even deals on parts."""
    some = [drawn_deal(clock, rng, 1) for _ in range(3)]
    parts = [even_on(clock, rng.choice(all_triples(clock))) for _ in range(3)]
    two = added(clock, single_deal(clock, (0, 0), (1, 1)), single_deal(clock, rng.choice(moves(clock)), (-1, 1)))
    return [*some, *parts, two, dealt(clock, parts[0], two), dealt(clock, two, parts[1]), dealt(clock, two, two)]


class Ranks(unittest.TestCase):
    def each(self, seed, clocks=SMALL_CLOCKS):
        rng = dice(seed)
        for clock in clocks:
            for deal in thin_deals(clock, rng):
                yield clock, deal

    def test_ranks_are_those_of_the_definition(self):
        for clock, deal in self.each(41):
            ranks = plain_ranks(clock, deal)
            self.assertEqual(ranks_of(clock, deal), ranks)
            for piece, rank in zip(pieces_of(clock), ranks):
                self.assertEqual(rank_at(clock, piece, deal), rank)
                self.assertLessEqual(rank, edge(clock, piece[0]))
                self.assertEqual(board_rank(clock, piece, deal), quick_rank(board_table(clock, piece, deal)[1]))
                whole = board_rank(clock, piece, at_piece(clock, piece, deal))
                self.assertEqual(whole, rank * grain_at(clock, piece))

    def test_larger_clocks_and_long_weights(self):
        rng = dice(42)
        for clock in BOARD_CLOCKS[-6:]:
            deals = [*thin_deals(clock, rng)[3:], some_deals(clock)[3]]
            for deal in deals:
                self.assertEqual(ranks_of(clock, deal), plain_ranks(clock, deal))
        long = dealt_again(SIX, (10 ** 22 + 1, (10 ** 22, 1, -2, 3, 4, 5)), 30)
        self.assertEqual(ranks_of(SIX, long), plain_ranks(SIX, long))
        thin = dealt(SIX, long, FLIP)
        self.assertEqual((ranks_of(SIX, thin), free_many(SIX, thin)), ((1, 0, 1), 3))

    def test_boards_of_forty_two_places(self):
        for clock in [(7, ((2, 1), (3, 1))), (42, ()), (1, ((2, 1), (3, 1), (7, 1))), (21, ((2, 1),)), (41, ())]:
            last = max(pieces(clock))
            self.assertEqual(ranks_of(clock, idle_of(clock)), tuple(edge(clock, a) for a, _ in pieces(clock)))
            self.assertEqual(ranks_of(clock, one_of(clock, last)),
                             tuple(edge(clock, last[0]) if piece == last else 0 for piece in pieces(clock)))
            self.assertEqual(free_many(clock, even_of(clock)), 1)

    def test_one_move(self):
        self.assertEqual([ranks_of(POINT, (3, (2,))), ranks_of(POINT, (1, (0,))), free_many(POINT, (1, (5,)))],
                         [(1,), (0,), 1])
        self.assertEqual([part_ranks(POINT, (1, 1, 0)), quiet_pieces(POINT, (1, 1, 0))], [(1,), ()])

    def test_as_many_products_are_independent(self):
        for clock, deal in self.each(43):
            rows = tuple(dealt(clock, single_deal(clock, move, (1, 1)), deal)[1] for move in moves(clock))
            self.assertEqual(free_many(clock, deal), quick_rank(rows))

    def test_idle_zero_mirrors_sums_and_products(self):
        rng = dice(44)
        for clock, deal in self.each(45):
            edges = tuple(edge(clock, a) for a, _ in pieces(clock))
            self.assertEqual(ranks_of(clock, idle_of(clock)), edges)
            self.assertEqual(ranks_of(clock, zero_of(clock)), (0,) * len(edges))
            ranks = ranks_of(clock, deal)
            self.assertEqual(ranks_of(clock, mirrored(clock, deal)), ranks)
            self.assertEqual(ranks_of(clock, scaled(clock, deal, (-3, 7))), ranks)
            other = rng.choice(thin_deals(clock, rng))
            others = ranks_of(clock, other)
            together = ranks_of(clock, added(clock, deal, other))
            self.assertTrue(all(rank <= a + b for rank, a, b in zip(together, ranks, others)))
            product_ranks = ranks_of(clock, dealt(clock, deal, other))
            self.assertTrue(all(rank <= min(a, b) for rank, a, b in zip(product_ranks, ranks, others)))
            single = single_deal(clock, rng.choice(moves(clock)), (-2, 3))
            self.assertEqual(ranks_of(clock, dealt(clock, deal, single)), ranks)
            self.assertEqual(ranks_of(clock, dealt(clock, single, deal)), ranks)

    def test_what_are_ranks(self):
        for good in [(0, 0, 0), (1, 1, 2), (1, 0, 1), (0, 1, 2)]:
            self.assertIs(is_ranks(SIX, good), True)
        bad = [*JUNK, (1, 1), (1, 1, 2, 0), [1, 1, 2], (2, 0, 0), (0, 2, 0), (0, 0, 3), (0, 0, -1), (True, 0, 0),
               (1, 1, (2,)), (0, 0, False), ("1", 1, 1), 3, ()]
        for thing in bad:
            self.assertIs(is_ranks(SIX, thing), False)
        self.assertEqual([is_ranks(POINT, (1,)), is_ranks(POINT, (2,)), is_ranks(SEVEN, (1, 1, 3))], [True, False, True])

    def test_parameters_of_is_ranks_are_not_refused(self):
        self.assertIs(is_ranks(clock=SIX, thing=None), False)


class Papers(unittest.TestCase):
    def assert_invalid(self, told, thing, deal=SLIPS):
        with self.assertRaises(InvalidPaper) as caught:
            lets_ranks(SIX, deal, thing)
        self.assertEqual((caught.exception.word, caught.exception.at), told)

    def test_what_is_let(self):
        rng = dice(46)
        for clock in SMALL_CLOCKS:
            for deal in thin_deals(clock, rng):
                self.assertEqual(lets_ranks(clock, deal, ranks_of(clock, deal)), free_many(clock, deal))
        self.assertEqual(lets_ranks(clock=SIX, deal=FLIP, thing=(1, 0, 1)), 3)

    def test_shape(self):
        for thing in [*JUNK, (), (1, 0), (1, 0, 1, 0), [1, 0, 1], (True, 0, 1), (1, False, 1), (1, 0, -1), (1, 0, "1"),
                      (5, None, 1)]:
            self.assert_invalid(("shape", -1), thing)

    def test_the_first_wrong_rank(self):
        for thing, k in [((0, 0, 0), 0), ((1, 1, 0), 1), ((1, 0, 0), 2), ((1, 0, 10 ** 59), 2), ((2, 5, 7), 0)]:
            self.assert_invalid(("rank", k), thing)

    def test_a_deal_that_is_none(self):
        for deal in BAD_DEALS:
            with self.assertRaises(NotUsable):
                lets_ranks(SIX, deal, None)


class PartRanks(unittest.TestCase):
    def test_they_are_those_of_the_even_deal_on_the_part(self):
        for clock in BOARD_CLOCKS:
            for part in all_triples(clock)[:14]:
                ranks = ranks_of(clock, even_on(clock, part))
                self.assertEqual(part_ranks(clock, part), ranks)
                quiet = tuple(piece for piece, rank in zip(pieces_of(clock), ranks) if rank == 0)
                self.assertEqual(quiet_pieces(clock, part), quiet)

    def test_every_clock_has_them(self):
        for clock in [(59, ()), (1, ((59, 1),)), (29, ((2, 28),)), (1, ((2, 1), (29, 1)))]:
            ones = (1,) * len(pieces_of(clock))
            self.assertEqual(part_ranks(clock, (1, 1, 0)), tuple(edge(clock, a) for a, _ in pieces(clock)))
            whole = (clock[0], size(clock) // clock[0], 0)
            self.assertEqual(part_ranks(clock, whole), ones[:1] + (0,) * (len(ones) - 1))

    def test_parts_that_cover(self):
        for clock in SMALL_CLOCKS:
            for one, other in list(product(all_triples(clock), repeat=2))[::3]:
                pairs = product(part_moves(clock, one), part_moves(clock, other))
                plain = {then(clock, h, j) for h, j in pairs} == set(moves(clock))
                self.assertIs(parts_cover(clock, one, other), plain)
        self.assertIs(parts_cover(POINT, (1, 1, 0), (1, 1, 0)), True)


class Making(unittest.TestCase):
    def test_all_choices(self):
        for clock in [*SMALL_CLOCKS, (7, ((2, 6), (3, 2)))]:
            choices = product(*[range(edge(clock, a) + 1) for a, _ in pieces(clock)])
            for ranks in list(choices)[:70]:
                deal = deal_of_ranks(clock, ranks)
                self.assertEqual(ranks_of(clock, deal), ranks)
                self.assertIs(is_ranks(clock, ranks), True)

    def test_clocks_with_large_boards(self):
        clock = (1, ((59, 1),))
        self.assertEqual([deal_of_ranks(clock, (1, 0)), deal_of_ranks(clock, (1, 1)), deal_of_ranks(clock, (0, 0))],
                         [even_of(clock), idle_of(clock), zero_of(clock)])
        for clock in all_clocks():
            self.assertEqual(deal_of_ranks(clock, tuple(edge(clock, a) for a, _ in pieces(clock))), idle_of(clock))

    def test_refused(self):
        for ranks in [(1, 0), (1, 0, 3), (True, 0, 1), None, [1, 0, 1]]:
            with self.assertRaises(NotUsable) as caught:
                deal_of_ranks(SIX, ranks)
            self.assertEqual((caught.exception.word, caught.exception.at), ("ranks", -1))
        self.assertEqual(ranks_of(LOOSE, deal_of_ranks(LOOSE, (0, 1, 1, 0))), (0, 1, 1, 0))


if __name__ == "__main__":
    unittest.main()
