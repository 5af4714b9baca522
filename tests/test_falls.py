"""Falls: what they are, those of deals, and deals of told falls."""

import unittest
from itertools import product

from calls import BAD, even_of, idle_of, pieces, some_deals, zero_of
from evenlater.backs import back_deal, has_back
from evenlater.dealing import dealt, dealt_again, dealt_row
from evenlater.dealmaking import even_on
from evenlater.dealsums import added, scaled
from evenlater.errors import NotUsable
from evenlater.evens import even_after
from evenlater.exchanging import deal_of_classes, exchange_many
from evenlater.fallmaking import deal_of_falls, deal_of_rows
from evenlater.falls import after_of_falls, all_falls, blocks_of, falls_at, falls_of, is_falls, uneven_pieces
from evenlater.mirrors import mirrored, turned_deal
from evenlater.pieces import pieces_of
from samples import FLIP, JUNK, LOOSE, POINT, SEVEN, SIX, SLIPS, all_clocks, dice, drawn_move, edge
from samples import plain_dealt, size
from test_evens import EDGES, fading_deals
from test_ranks import plain_ranks, thin_deals

PARTITIONS = [1, 1, 2, 3, 5, 7, 11, 15, 22]


def plain_is_falls(e, row):
    """Whether a row of numbers is falls for e, from (G3)."""
    steps = [a - b for a, b in zip(row, row[1:])]
    return row[0] == e and all(step >= 0 for step in steps) and all(a >= b for a, b in zip(steps, steps[1:]))


def mixed_deals(clock, rng):
    """Deals that fade, deals that last, sums of both, even ones, single moves, and drawn ones."""
    found = []
    for _ in range(4):
        rows = tuple(rng.choice(all_falls(edge(clock, a))) for a, _ in pieces(clock))
        found.append(turned_deal(clock, deal_of_rows(clock, rows), drawn_move(clock, rng)))
    both = deal_of_rows(clock, tuple(tuple(max(1, edge(clock, a) - k) for k in range(edge(clock, a) + 1))
                                     for a, _ in pieces(clock)))
    # what lasts is no multiple of an own square, and does not keep to the places of a frame
    weights = [(k % 3, 1) for k in range(exchange_many(clock))]
    central = deal_of_classes(clock, ((3 * size(clock), 1), *weights[1:]))
    for stir in [deal for deal in some_deals(clock)[4:] if size(clock) <= 21 and has_back(clock, deal)][:2]:
        found.append(dealt_row(clock, (stir, both, central, back_deal(clock, stir))))
    return [*found, *fading_deals(clock, rng)[:5], *thin_deals(clock, rng), zero_of(clock), idle_of(clock)]


class Rows(unittest.TestCase):
    def assert_refused(self, name, function, *values):
        with self.assertRaises(NotUsable) as caught:
            function(*values)
        self.assertEqual((caught.exception.word, caught.exception.at), (name, -1))

    def test_each_row_told_and_each_beside_it(self):
        for e in (1, 2, 3, 4):
            told = []
            for row in product(range(-1, e + 2), repeat=e + 1):
                plain = min(row) >= 0 and plain_is_falls(e, row)
                self.assertIs(is_falls(e, row), plain)
                told.extend([row] if plain else [])
            self.assertEqual(all_falls(e), tuple(told))

    def test_all_falls(self):
        for e in range(1, 9):
            rows = all_falls(e)
            self.assertEqual(list(rows), sorted(set(rows)))
            self.assertEqual(len(rows), sum(PARTITIONS[:e + 1]))
            self.assertTrue(all(is_falls(e, row) and plain_is_falls(e, row) and len(row) == e + 1 for row in rows))
            self.assertEqual((rows[0], rows[-1]), ((e,) + (0,) * e, (e,) * (e + 1)))
        for bad in [0, 9, 60, True, None, "1"]:
            self.assert_refused("edge", all_falls, bad)

    def test_long_rows(self):
        for e in (59, 60):
            self.assertEqual([is_falls(e, tuple(range(e, -1, -1))), is_falls(e, (e,) * (e + 1)), is_falls(e, (e,) * e),
                              is_falls(e, (e,) * e + (e - 1,)), is_falls(e, (e,) + (e - 1,) * e)],
                             [True, True, False, False, True])

    def test_other_values_are_no_falls(self):
        for thing in [*JUNK, (), (2,), [2, 1, 0], (2, 1), (2, 1, 0, 0), (2, True, 0), (2, 1, False), (2, 1, None),
                      (2, 1, (0,)), "210", 2, ((2, 1, 0),)]:
            self.assertIs(is_falls(2, thing), False)
        self.assertEqual([is_falls(1, (1, True)), is_falls(1, (True, 1)), is_falls(edge=1, thing=(1, 1))],
                         [False, False, True])
        for bad in [0, -1, 61, True, None, (2,)]:
            self.assert_refused("edge", is_falls, bad, (2, 1, 0))

    def test_blocks(self):
        for e in range(1, 9):
            for row in all_falls(e):
                blocks = blocks_of(e, row)
                self.assertEqual(list(blocks), sorted(blocks, reverse=True))
                self.assertTrue(all(block >= 1 for block in blocks))
                for i in range(1, e + 1):
                    self.assertEqual(len([block for block in blocks if block >= i]), row[i - 1] - row[i])
        self.assertEqual([blocks_of(3, (3, 3, 3, 3)), blocks_of(3, (3, 0, 0, 0)), blocks_of(3, (3, 2, 1, 0))],
                         [(), (1, 1, 1), (3,)])
        self.assertEqual(blocks_of(60, tuple(range(60, -1, -1))), (60,))
        self.assert_refused("falls", blocks_of, 3, (3, 3, 2, 1))
        self.assert_refused("edge", blocks_of, 0, None)


class Falls(unittest.TestCase):
    def each(self, seed, clocks=EDGES[:6]):
        rng = dice(seed)
        for clock in clocks:
            for deal in mixed_deals(clock, rng):
                yield clock, deal

    def test_ranks_of_own_powers(self):
        for clock, deal in self.each(81):
            power, rows = idle_of(clock), [[] for _ in pieces(clock)]
            for _ in range(edge(clock, clock[0]) + 1):
                for row, rank in zip(rows, plain_ranks(clock, power)):
                    row.append(rank)
                power = plain_dealt(clock, power, deal)
            plain = tuple(tuple(row[:edge(clock, a) + 1]) for row, (a, _) in zip(rows, pieces_of(clock)))
            self.assertEqual(falls_of(clock, deal), plain)
            for piece, row in zip(pieces_of(clock), plain):
                self.assertEqual(falls_at(clock, piece, deal), row)
                self.assertIs(is_falls(edge(clock, piece[0]), row), True)
            uneven = [piece for piece, row in zip(pieces_of(clock), plain) if row[-1] and piece != (1, 1)]
            self.assertEqual(uneven_pieces(clock, deal), tuple(uneven))

    def test_when_it_comes_out_even(self):
        for clock, deal in self.each(82, EDGES):
            after = even_after(clock, deal)
            self.assertEqual(after_of_falls(clock, falls_of(clock, deal)), after)
            self.assertIs(uneven_pieces(clock, deal) == (), after is not None)

    def test_long_weights(self):
        for clock in [SIX, SEVEN, LOOSE]:
            deal = some_deals(clock)[3]
            self.assertEqual([row[1] for row in falls_of(clock, deal)], list(plain_ranks(clock, deal)))
        long = dealt_again(SIX, (10 ** 22 + 1, (10 ** 22, 1, -2, 3, 4, 5)), 30)
        self.assertEqual(falls_of(SIX, dealt(SIX, long, FLIP))[2], (2, 1, 1))

    def test_mirrors_and_the_like(self):
        rng = dice(83)
        for clock, deal in self.each(84):
            falls = falls_of(clock, deal)
            self.assertEqual(falls_of(clock, mirrored(clock, deal)), falls)
            self.assertEqual(falls_of(clock, turned_deal(clock, deal, drawn_move(clock, rng))), falls)
            self.assertEqual(falls_of(clock, scaled(clock, deal, (-2, 9))), falls)
            self.assertEqual(falls_of(clock, added(clock, deal, even_of(clock, 5)))[1:], falls[1:])

    def test_one_move_and_boards_of_forty_two_places(self):
        self.assertEqual([falls_of(POINT, (3, (2,))), falls_of(POINT, (1, (0,))), uneven_pieces(POINT, (1, (4,)))],
                         [((1, 1),), ((1, 0),), ()])
        for clock in [(7, ((2, 1), (3, 1))), (41, ()), (7, ((2, 6), (3, 2)))]:
            edges = [edge(clock, a) for a, _ in pieces(clock)]
            self.assertEqual(falls_of(clock, idle_of(clock)), tuple((e,) * (e + 1) for e in edges))
            self.assertEqual(falls_of(clock, even_on(clock, (clock[0], size(clock) // clock[0], 0))),
                             tuple((1, 1) if k == 0 else (e,) + (0,) * e for k, e in enumerate(edges)))


class Afters(unittest.TestCase):
    def test_rows(self):
        self.assertEqual([after_of_falls(POINT, ((1, 1),)), after_of_falls(POINT, ((1, 0),))], [1, 1])
        self.assertEqual(after_of_falls(SIX, ((1, 1), (1, 0), (2, 1, 0))), 2)
        self.assertEqual(after_of_falls(SIX, ((1, 0), (1, 1), (2, 1, 0))), None)
        self.assertEqual(after_of_falls(SIX, ((1, 0), (1, 0), (2, 1, 1))), None)
        self.assertEqual(after_of_falls(SEVEN, ((1, 1), (1, 0), (3, 2, 1, 0))), 3)
        self.assertEqual(after_of_falls(SEVEN, ((1, 1), (1, 0), (3, 1, 0, 0))), 2)
        self.assertEqual(after_of_falls(SEVEN, ((1, 1), (1, 0), (3, 0, 0, 0))), 1)

    def test_all_rows_of_a_clock(self):
        for clock in EDGES:
            lists = [all_falls(edge(clock, a)) for a, _ in pieces(clock)]
            for rows in list(product(*lists))[::7][:40]:
                deal = deal_of_rows(clock, rows)
                self.assertEqual(after_of_falls(clock, rows), even_after(clock, deal))

    def test_refused(self):
        for bad in BAD["fall_rows"]():
            with self.assertRaises(NotUsable) as caught:
                after_of_falls(SIX, bad)
            self.assertEqual((caught.exception.word, caught.exception.at), ("rows", -1))


class Making(unittest.TestCase):
    def test_all_falls_at_each_piece(self):
        for clock in EDGES:
            for at, piece in enumerate(pieces_of(clock)):
                for falls in all_falls(edge(clock, piece[0])):
                    told = falls_of(clock, deal_of_falls(clock, piece, falls))
                    self.assertEqual(told[at], falls)
                    others = [row for k, row in enumerate(told) if k != at]
                    self.assertTrue(all(row[1:] == (0,) * (len(row) - 1) for row in others))

    def test_all_rows(self):
        for clock in EDGES:
            rng = dice(85)
            for _ in range(12):
                rows = tuple(rng.choice(all_falls(edge(clock, a))) for a, _ in pieces(clock))
                self.assertEqual(falls_of(clock, deal_of_rows(clock, rows)), rows)

    def test_every_clock(self):
        for clock in all_clocks():
            edges = [edge(clock, a) for a, _ in pieces(clock)]
            self.assertEqual(deal_of_rows(clock, tuple((e,) * (e + 1) for e in edges)), idle_of(clock))
            self.assertEqual(deal_of_rows(clock, tuple((e,) + (0,) * e for e in edges)), zero_of(clock))
            steps = deal_of_rows(clock, tuple(tuple(range(e, -1, -1)) for e in edges))
            self.assertEqual(even_after(clock, steps), max(edges))

    def test_first_what_is_wrong_with_the_piece(self):
        for piece, falls, name in [((3, 2), (2, 1, 0), "piece"), ((3, 1), (1, 0), "falls"), ((1, 2), (2, 1, 0), "falls"),
                                   (None, None, "piece"), ((3, 1), (2, 2, 1), "falls"), ((3, 1), [2, 1, 0], "falls")]:
            with self.assertRaises(NotUsable) as caught:
                deal_of_falls(SIX, piece, falls)
            self.assertEqual((caught.exception.word, caught.exception.at), (name, -1))
        self.assertEqual(falls_at(SIX, (3, 1), SLIPS), (2, 1, 0))


if __name__ == "__main__":
    unittest.main()
