"""Pieces, boards, tables and their ranks."""

import unittest
from fractions import Fraction
from math import gcd

from evenlater.boards import board_table, place_after, place_number
from evenlater.classes import classes_of
from evenlater.dealing import dealt
from evenlater.dealsums import added
from evenlater.kinds import is_piece
from evenlater.mirrors import mirrored
from evenlater.moving import then
from evenlater.pieces import edge_at, grain_at, pieces_of, pieces_under, width_at
from evenlater.ranking import combined, rank_of
from samples import CLOCKS, LOOSE, POINT, PRIMES, SMALL_CLOCKS, all_clocks, dice, divisors, drawn_deal, drawn_move
from samples import edge, factor, fractions, moves, turns


def units(number):
    return sum(1 for k in range(1, number + 1) if gcd(k, number) == 1)


def places(piece):
    return [(beat, turn) for turn in range(piece[1]) for beat in range(piece[0])]


def went(clock, piece, place, move):
    return (factor(clock, move[1]) * place[0] + move[0]) % piece[0], (place[1] + move[1]) % piece[1]


def as_table(clock, piece, deal):
    """The table in fractions."""
    bottom, rows = board_table(clock, piece, deal)
    return [[Fraction(entry, bottom) for entry in row] for row in rows]


def multiplied(one, other):
    return [[sum(a * b for a, b in zip(row, column)) for column in zip(*other)] for row in one]


def plain_rank(rows):
    rows, rank = [[Fraction(entry) for entry in row] for row in rows], 0
    for column in range(len(rows[0]) if rows else 0):
        lead = next((row for row in rows[rank:] if row[column]), None)
        if lead is not None:
            rows.remove(lead)
            rows.insert(rank, lead)
            rank += 1
            rows[rank:] = [[a - row[column] / lead[column] * b for a, b in zip(row, lead)] for row in rows[rank:]]
    return rank


class Pieces(unittest.TestCase):
    def test_pieces(self):
        for clock in all_clocks():
            plain = [(a, b) for a in divisors(clock[0]) for b in divisors(turns(clock))
                     if not any(b % q == 0 and edge(clock, a) % q == 0 for q in PRIMES)]
            self.assertEqual(pieces_of(clock), tuple(plain))
            for a, b in plain:
                self.assertEqual(edge_at(clock, (a, b)), edge(clock, a))
                self.assertEqual(width_at(clock, (a, b)), units(a) * units(b))
                self.assertEqual(grain_at(clock, (a, b)) * edge(clock, a), units(a) * units(b))
                under = tuple(piece for piece in plain if a % piece[0] == 0 and b % piece[1] == 0)
                self.assertEqual(pieces_under(clock, (a, b)), under)

    def test_grains_add_up_to_the_number_of_classes(self):
        for clock in CLOCKS:
            self.assertEqual(sum(grain_at(clock, piece) for piece in pieces_of(clock)), len(classes_of(clock)))

    def test_a_mover_that_moves_nothing(self):
        self.assertEqual([pieces_of(POINT), pieces_under(LOOSE, (3, 2))],
                         [((1, 1),), ((1, 1), (1, 2), (3, 1), (3, 2))])
        self.assertEqual([grain_at(LOOSE, (3, 2)), width_at(LOOSE, (3, 2)), edge_at(LOOSE, (3, 2))], [2, 2, 1])


class Boards(unittest.TestCase):
    def test_places(self):
        rng = dice(15)
        for clock in CLOCKS:
            for piece in pieces_of(clock):
                for number, place in enumerate(places(piece)):
                    self.assertEqual(place_number(clock, piece, place), number)
                    one, other = drawn_move(clock, rng), drawn_move(clock, rng)
                    after = place_after(clock, piece, place, one)
                    self.assertEqual(after, went(clock, piece, place, one))
                    both = place_after(clock, piece, place, then(clock, one, other))
                    self.assertEqual(both, place_after(clock, piece, after, other))

    def test_tables(self):
        rng = dice(16)
        for clock in SMALL_CLOCKS:
            deal = drawn_deal(clock, rng)
            for piece in pieces_of(clock):
                every = places(piece)
                plain = [[Fraction(0)] * len(every) for _ in every]
                for move, weight in zip(moves(clock), fractions(deal)):
                    for k, place in enumerate(every):
                        plain[k][every.index(went(clock, piece, place, move))] += weight
                bottom, rows = board_table(clock, piece, deal)
                self.assertEqual((bottom, rows.__class__, {row.__class__ for row in rows}), (deal[0], tuple, {tuple}))
                self.assertEqual(as_table(clock, piece, deal), plain)

    def test_the_bottom_stays_the_deal_s(self):
        self.assertEqual(board_table(LOOSE, (1, 1), (2, (1, 1, 1, 1, 1, 1))), (2, ((6,),)))

    def test_tables_of_products_sums_and_mirrors(self):
        rng = dice(17)
        for clock in SMALL_CLOCKS:
            one, other = drawn_deal(clock, rng), drawn_deal(clock, rng)
            for piece in pieces_of(clock):
                left, right = as_table(clock, piece, one), as_table(clock, piece, other)
                self.assertTrue(is_piece(clock, piece))
                self.assertEqual(as_table(clock, piece, dealt(clock, one, other)), multiplied(left, right))
                total = [[a + b for a, b in zip(*rows)] for rows in zip(left, right)]
                self.assertEqual(as_table(clock, piece, added(clock, one, other)), total)
                exchanged = [list(column) for column in zip(*left)]
                self.assertEqual(as_table(clock, piece, mirrored(clock, one)), exchanged)


class Ranking(unittest.TestCase):
    def drawn_rows(self, rng):
        many, width, base = rng.randint(0, 6), rng.randint(0, 6), rng.randint(0, 5)
        most = rng.choice((1, 3, 10 ** 30))
        known = [[rng.randint(-most, most) for _ in range(width)] for _ in range(base)]
        shares = [[rng.randint(-2, 2) for _ in range(base)] for _ in range(many)]
        return tuple(tuple(sum(a * row[k] for a, row in zip(share, known)) for k in range(width)) for share in shares)

    def assert_combines(self, rows, row, told):
        bottom, tops = told
        self.assertEqual((len(tops), gcd(bottom, *tops), tops.__class__), (len(rows), 1, tuple))
        self.assertGreaterEqual(bottom, 1)
        for k, entry in enumerate(row):
            self.assertEqual(sum(top * known[k] for top, known in zip(tops, rows)), bottom * entry)

    def test_ranks(self):
        rng = dice(18)
        for _ in range(300):
            rows = self.drawn_rows(rng)
            self.assertEqual(rank_of(rows), plain_rank(rows))

    def test_combined(self):
        rng = dice(19)
        for _ in range(400):
            rows = self.drawn_rows(rng)
            width = len(rows[0]) if rows else 3
            row = tuple(rng.randint(-2, 2) for _ in range(width))
            if rows and rng.random() < 0.5:
                row = tuple(map(sum, zip(*rng.choices(rows, k=3))))
            told = combined(rows, row)
            fits = plain_rank(rows) == plain_rank((*rows, row))
            self.assertIs(told is not None, fits)
            if fits:
                self.assert_combines(rows, row, told)

    def test_no_rows_and_no_entries(self):
        self.assertEqual([rank_of(()), rank_of(((),)), rank_of(((), ())), rank_of(((0, 0),))], [0, 0, 0, 0])
        self.assertEqual([combined((), ()), combined((), (0,)), combined((), (0, 1))], [(1, ()), (1, ()), None])
        self.assertEqual([combined(((), ()), ()), combined(((0, 0),), (0, 0)), combined(((0, 0),), (0, 1))],
                         [(1, (0, 0)), (1, (0,)), None])

    def test_sixty_by_sixty(self):
        rng = dice(20)
        rows = tuple(tuple(rng.randint(-(10 ** 20), 10 ** 20) for _ in range(60)) for _ in range(60))
        row = tuple(3 * a - b for a, b in zip(rows[7], rows[50]))
        # the last row is made of two of the 59 others, which are independent
        self.assertEqual(rank_of((*rows[:59], row)), 59)
        told = combined(rows, row)
        self.assertEqual(told, (1, tuple({7: 3, 50: -1}.get(k, 0) for k in range(60))))
        same = tuple(tuple(5 if j == k else 0 for j in range(60)) for k in range(60))
        self.assertEqual([rank_of(same), combined(same, (1,) * 60)], [60, (5, (1,) * 60)])


if __name__ == "__main__":
    unittest.main()
