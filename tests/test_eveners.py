"""What makes a deal even: the eveners, the pieces that two deals crowd, and the nearest deals that come out even."""

import unittest
from fractions import Fraction

from calls import even_of, idle_of, pieces, zero_of
from evenlater.backs import has_back
from evenlater.dealing import dealt
from evenlater.dealmaking import even_on, single_deal
from evenlater.dealsums import added, scaled, taken
from evenlater.eveners import even_many, evener_left, evener_right
from evenlater.evenness import first_crowded, is_evened
from evenlater.mirrors import mirrored
from evenlater.nearevens import gap_even, nearest_even
from evenlater.ones import ones_of
from evenlater.partranks import part_ranks
from evenlater.pieces import pieces_of, width_at
from evenlater.rankmaking import deal_of_ranks
from evenlater.ranks import ranks_of
from evenlater.recalls import recall_of
from evenlater.weighing import square_sum
from samples import FLIP, LOOSE, POINT, SEVEN, SIX, SLIPS, dice, drawn_deal, drawn_move, edge, fractions, moves
from samples import own_dealt, quick_rank, size
from test_making import pairs
from test_recalls import LARGE, SOLVED, each

TINY = [clock for clock in SOLVED if size(clock) <= 21]
IDLE = (1, (1, 0, 0, 0, 0, 0))


def is_flat(deal):
    return len(set(deal[1])) == 1


def singles(clock):
    return [single_deal(clock, move, (1, 1)) for move in moves(clock)]


def uneven_many(clock, deal):
    """By own products, how many deals times which deal is uneven are independent, but for those it makes even."""
    rows = [own_dealt(clock, deal, single)[1] for single in singles(clock)]
    return quick_rank([[weight - row[0] for weight in row] for row in rows])


def own_ranks(clock, deal):
    """The ranks of a deal, as test_ranks shows them to be."""
    return dict(zip(pieces_of(clock), ranks_of(clock, deal)))


def own_crowded(clock, one, other):
    left, right = own_ranks(clock, one), own_ranks(clock, other)
    return [piece for piece in pieces(clock)
            if piece != (1, 1) and left[piece] + right[piece] > edge(clock, piece[0])]


class Eveners(unittest.TestCase):
    def assert_own(self, clock, deal):
        self.assertEqual((mirrored(clock, deal), own_dealt(clock, deal, deal)), (deal, deal))

    def test_all_that_is_made_even_is_made_of_them(self):
        """P * C is even behind the deal for each C, and there are as many of these as even ones at all."""
        for clock, deal in each(201, TINY):
            right, left = evener_right(clock, deal), evener_left(clock, deal)
            self.assert_own(clock, right)
            self.assert_own(clock, left)
            many = size(clock) - uneven_many(clock, deal)
            rows, columns = [], []
            for single in singles(clock):
                rows.append(dealt(clock, right, single))
                columns.append(dealt(clock, single, left))
                self.assertTrue(is_flat(own_dealt(clock, deal, rows[-1])))
                self.assertTrue(is_flat(own_dealt(clock, columns[-1], deal)))
            self.assertEqual([quick_rank([row[1] for row in some]) for some in (rows, columns)], [many, many])
            self.assertEqual(even_many(clock, deal), many)

    def test_even_exactly_if_it_stays_as_it_is(self):
        rng, told = dice(202), []
        for clock, one, other in pairs(203, TINY):
            right, left = evener_right(clock, one), evener_left(clock, one)
            kept = dealt(clock, right, drawn_deal(clock, rng, 2))
            for some in (other, kept, dealt(clock, drawn_deal(clock, rng, 2), left)):
                told.append(is_flat(dealt(clock, one, some)))
                self.assertIs(dealt(clock, right, some) == some, told[-1])
                self.assertIs(dealt(clock, some, left) == some, is_flat(dealt(clock, some, one)))
                self.assertIs(is_evened(clock, one, some), told[-1])
        self.assertGreater(min(told.count(True), told.count(False)), 30)

    def test_ranks_and_how_many(self):
        for clock, deal in each(204, TINY):
            ranks, many = own_ranks(clock, deal), 1
            told = own_ranks(clock, evener_right(clock, deal))
            for piece in pieces(clock):
                left = edge(clock, piece[0]) - ranks[piece]
                self.assertEqual(told[piece], 1 if piece == (1, 1) else left)
                many += 0 if piece == (1, 1) else left * width_at(clock, piece)
            self.assertEqual(even_many(clock, deal), many)

    def test_idle_zero_and_even_deals(self):
        for clock in SOLVED + LARGE:
            idle, even = idle_of(clock), even_of(clock)
            self.assertEqual([evener_right(clock, idle), evener_left(clock, idle), even_many(clock, idle)],
                             [even, even, 1])
            for deal in (zero_of(clock), even, even_of(clock, -3)):
                self.assertEqual([evener_right(clock, deal), evener_left(clock, deal), even_many(clock, deal)],
                                 [idle, idle, size(clock)])
            one = ones_of(clock, pieces_of(clock)[1:])
            self.assertEqual(evener_right(clock, one), even)
        for clock, deal in [(POINT, (2, (3,))), (POINT, (1, (0,)))]:
            self.assertEqual([evener_right(clock, deal), evener_left(clock, deal), even_many(clock, deal)],
                             [(1, (1,)), (1, (1,)), 1])
        for piece_set in [((1, 2),), ((3, 1),), ((1, 2), (3, 1))]:
            rest = tuple(piece for piece in pieces_of(SIX) if piece not in piece_set)
            self.assertEqual(evener_right(SIX, ones_of(SIX, piece_set)), ones_of(SIX, rest))

    def test_mirrors_factors_even_deals_and_what_is_ahead(self):
        rng = dice(205)
        for clock, deal in each(206, TINY):
            right = evener_right(clock, deal)
            self.assertEqual(evener_left(clock, mirrored(clock, deal)), right)
            self.assertEqual(evener_right(clock, scaled(clock, deal, (-3, 7))), right)
            self.assertEqual(evener_right(clock, added(clock, deal, even_of(clock, 5))), right)
            ahead = drawn_deal(clock, rng, 2)
            if has_back(clock, ahead):
                self.assertEqual(evener_right(clock, dealt(clock, ahead, deal)), right)
            self.assertEqual(evener_right(clock, right), added(clock, taken(clock, idle_of(clock), right),
                                                               even_of(clock)))
            self.assertEqual(evener_right(clock, recall_of(clock, mirrored(clock, deal))), right)

    def test_forty_two_moves(self):
        rng = dice(207)
        for clock in LARGE:
            thin = dealt(clock, even_on(clock, (1, size(clock) // clock[0], 0)), drawn_deal(clock, rng, 9))
            for deal in (drawn_deal(clock, rng, 99), (1, thin[1])):
                right = evener_right(clock, deal)
                self.assertEqual((mirrored(clock, right), dealt(clock, right, right)), (right, right))
                self.assertTrue(is_flat(dealt(clock, deal, right)))
                ranks, told = own_ranks(clock, deal), own_ranks(clock, right)
                self.assertEqual([told[piece] for piece in pieces(clock)[1:]],
                                 [edge(clock, piece[0]) - ranks[piece] for piece in pieces(clock)[1:]])

    def test_figures_at_their_limit(self):
        rng = dice(208)
        for clock, figures in [(POINT, 30), (SIX, 20), (LOOSE, 20), ((15, ((2, 14),)), 4), ((10, ()), 12)]:
            deal = drawn_deal(clock, rng, 10 ** figures - 1)
            self.assertEqual(evener_right(clock, deal), even_of(clock))
            less = dealt(clock, deal, taken(clock, idle_of(clock), even_on(clock, (1, 1, 0))))
            self.assertEqual(evener_left(clock, less), idle_of(clock))


class Evenness(unittest.TestCase):
    def test_own_products(self):
        told = []
        for clock, one, other in pairs(211, TINY):
            told.append(is_flat(own_dealt(clock, one, other)))
            self.assertIs(is_evened(clock, one, other), told[-1])
        self.assertGreater(min(told.count(True), told.count(False)), 10)

    def test_the_first_crowded_piece(self):
        told = set()
        for clock, one, other in pairs(212, TINY):
            crowded = own_crowded(clock, one, other)
            self.assertEqual(first_crowded(clock, one, other), crowded[0] if crowded else None)
            told.add(len(crowded))
            if is_evened(clock, one, other):
                self.assertEqual(crowded, [])
        self.assertLessEqual({0, 1, 2}, told)

    def test_told_ranks(self):
        for clock in [SIX, LOOSE, SEVEN, (7, ((2, 6), (3, 2))), (11, ((5, 3),))]:
            edges = [edge(clock, a) for a, _ in pieces(clock)]
            for at, piece in enumerate(pieces(clock)):
                for rank in range(edges[at] + 1):
                    one = deal_of_ranks(clock, tuple(rank if k == at else 0 for k in range(len(edges))))
                    for more in (edges[at] - rank, edges[at] - rank + 1):
                        if more <= edges[at]:
                            other = deal_of_ranks(clock, tuple(more if k == at else 0 for k in range(len(edges))))
                            crowds = piece != (1, 1) and rank + more > edges[at]
                            self.assertEqual(first_crowded(clock, one, other), piece if crowds else None)

    def test_totals_crowd_nothing(self):
        for clock in [POINT, SIX, SEVEN, (1, ((59, 1),)), (29, ((2, 28),))]:
            even = even_of(clock, 7)
            self.assertIs(is_evened(clock, even, drawn_deal(clock, dice(213), 9)), True)
            if size(clock) < 42:
                self.assertIsNone(first_crowded(clock, even, idle_of(clock)))
        self.assertIs(is_evened(POINT, (1, (2,)), (1, (3,))), True)
        self.assertIsNone(first_crowded(POINT, (1, (2,)), (1, (3,))))
        self.assertEqual(first_crowded(other=IDLE, one=SLIPS, clock=SIX), (3, 1))

    def test_one_times_its_mirror(self):
        for clock, deal in each(214, TINY):
            if is_evened(clock, deal, mirrored(clock, deal)):
                self.assertTrue(is_flat(deal))

    def test_parts(self):
        for clock in [SIX, SEVEN, LOOSE]:
            for part in [(1, 1, 0), (clock[0], 1, 0), (1, 2, 0), (1, 3, 0)]:
                if part[1] in (1, size(clock) // clock[0]):
                    self.assertEqual(ranks_of(clock, even_on(clock, part)), part_ranks(clock, part))


class Nearest(unittest.TestCase):
    def dot(self, one, other):
        return sum(a * b for a, b in zip(fractions(one), fractions(other)))

    def test_what_is_left_stands_across_all_that_is_even(self):
        rng = dice(221)
        for clock, one, other in pairs(222, TINY):
            near, right = nearest_even(clock, one, other), evener_right(clock, one)
            self.assertTrue(is_flat(own_dealt(clock, one, near)))
            self.assertEqual(near, dealt(clock, right, other))
            left = taken(clock, other, near)
            for _ in range(5):
                single = single_deal(clock, drawn_move(clock, rng), (1, 1))
                self.assertEqual(self.dot(dealt(clock, right, single), left), 0)
            gap = gap_even(clock, one, other)
            self.assertEqual(Fraction(*gap), self.dot(left, left))
            self.assertEqual(Fraction(*square_sum(clock, other)), self.dot(near, near) + Fraction(*gap))
            self.assertIs(gap == (0, 1), is_evened(clock, one, other))

    def test_none_is_nearer(self):
        rng = dice(223)
        for clock, one, other in pairs(224, [SIX, (6, ()), LOOSE]):
            gap = Fraction(*gap_even(clock, one, other))
            for _ in range(4):
                also = added(clock, nearest_even(clock, one, other),
                             dealt(clock, evener_right(clock, one), drawn_deal(clock, rng, 2)))
                self.assertTrue(is_evened(clock, one, also))
                away = taken(clock, other, also)
                self.assertLessEqual(gap, self.dot(away, away))

    def test_idle_and_zero(self):
        for clock in SOLVED:
            idle, zero, deal = idle_of(clock), zero_of(clock), drawn_deal(clock, dice(225), 3)
            self.assertEqual([nearest_even(clock, zero, deal), gap_even(clock, zero, deal)], [deal, (0, 1)])
            total = Fraction(sum(deal[1]), deal[0])
            near = nearest_even(clock, idle, deal)
            self.assertEqual(fractions(near), [total / size(clock)] * size(clock))
            self.assertEqual([nearest_even(clock, deal, zero), gap_even(clock, deal, zero)], [zero, (0, 1)])
        self.assertEqual(nearest_even(other=FLIP, one=SLIPS, clock=SIX), FLIP)
        self.assertEqual(gap_even(other=IDLE, one=SLIPS, clock=SIX), (1, 3))

    def test_forty_two_moves(self):
        rng = dice(226)
        for clock in LARGE[:3]:
            one = dealt(clock, even_on(clock, (1, size(clock) // clock[0], 0)), drawn_deal(clock, rng, 9))
            one, other = (1, one[1]), drawn_deal(clock, rng, 99)
            self.assertTrue(is_flat(dealt(clock, one, nearest_even(clock, one, other))))


if __name__ == "__main__":
    unittest.main()
