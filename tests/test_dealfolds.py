"""Deals folded and lifted."""

import unittest
from fractions import Fraction

from evenlater.boards import board_table
from evenlater.clockparts import kept_parts
from evenlater.dealfolds import folded_deal, lifted_deal
from evenlater.dealing import dealt
from evenlater.dealmaking import even_on
from evenlater.dealsums import added
from evenlater.errors import NotUsable
from evenlater.folding import folded_clock, folded_move
from evenlater.pieces import pieces_of
from evenlater.weighing import total_of
from samples import CLOCKS, SEVEN, SIX, SLIPS, deal_for, dice, drawn_deal, fractions, moves, size


class DealFolds(unittest.TestCase):
    def drawn(self, many, rng=dice(21)):
        for clock in CLOCKS:
            for part in kept_parts(clock):
                yield clock, part, folded_clock(clock, part), *[drawn_deal(clock, rng) for _ in range(many)]

    def test_folded(self):
        for clock, part, folded, deal in self.drawn(1):
            plain = {move: Fraction(0) for move in moves(folded)}
            for move, weight in zip(moves(clock), fractions(deal)):
                plain[folded_move(clock, part, move)] += weight
            self.assertEqual(folded_deal(clock, part, deal), deal_for(list(plain.values())))

    def test_lifted(self):
        rng = dice(22)
        for clock, part, folded in self.drawn(0):
            deal = drawn_deal(folded, rng)
            weights = dict(zip(moves(folded), fractions(deal)))
            plain = [weights[folded_move(clock, part, move)] / (part[0] * part[1]) for move in moves(clock)]
            lifted = lifted_deal(clock, part, deal)
            self.assertEqual(lifted, deal_for(plain))
            self.assertEqual(folded_deal(clock, part, lifted), deal)
            self.assertEqual(total_of(clock, lifted), total_of(folded, deal))

    def test_folding_keeps_sums_products_and_totals(self):
        for clock, part, folded, one, other in self.drawn(2):
            left, right = folded_deal(clock, part, one), folded_deal(clock, part, other)
            self.assertEqual(folded_deal(clock, part, added(clock, one, other)), added(folded, left, right))
            self.assertEqual(folded_deal(clock, part, dealt(clock, one, other)), dealt(folded, left, right))
            self.assertEqual(total_of(clock, one), total_of(folded, left))

    def test_lifting_keeps_sums_and_products(self):
        rng = dice(23)
        for clock, part, folded in self.drawn(0):
            one, other = drawn_deal(folded, rng), drawn_deal(folded, rng)
            left, right = lifted_deal(clock, part, one), lifted_deal(clock, part, other)
            self.assertEqual(lifted_deal(clock, part, added(folded, one, other)), added(clock, left, right))
            self.assertEqual(lifted_deal(clock, part, dealt(folded, one, other)), dealt(clock, left, right))

    def test_folded_then_lifted_it_is_times_the_even_deal_of_the_part(self):
        for clock, part, _, deal in self.drawn(1):
            lifted = lifted_deal(clock, part, folded_deal(clock, part, deal))
            self.assertEqual(lifted, dealt(clock, deal, even_on(clock, part)))

    def test_folding_keeps_tables(self):
        for clock, part, folded, deal in self.drawn(1):
            for piece in pieces_of(folded):
                bottom, rows = board_table(clock, piece, deal)
                below, folded_rows = board_table(folded, piece, folded_deal(clock, part, deal))
                left = [[Fraction(entry, bottom) for entry in row] for row in rows]
                self.assertEqual(left, [[Fraction(entry, below) for entry in row] for row in folded_rows])

    def test_the_least_and_the_last_part(self):
        for clock in CLOCKS:
            deal = (1, tuple(range(size(clock))))
            whole = (clock[0], size(clock) // clock[0], 0)
            self.assertEqual(folded_deal(clock, (1, 1, 0), deal), deal)
            self.assertEqual(folded_deal(clock, whole, deal), (1, (sum(deal[1]),)))

    def test_deals_of_the_other_clock_are_refused(self):
        calls = [lambda: lifted_deal(SIX, (3, 1, 0), SLIPS), lambda: lifted_deal(SEVEN, (7, 1, 0), (1, (1, 0))),
                 lambda: folded_deal(SIX, (3, 1, 0), (1, (3, 3)))]
        for call in calls:
            with self.assertRaises(NotUsable) as caught:
                call()
            self.assertEqual(caught.exception.word, "deal")


if __name__ == "__main__":
    unittest.main()
