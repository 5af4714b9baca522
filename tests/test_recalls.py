"""Recalls, sides and backs."""

import unittest

from calls import BAD_DEALS, even_of, idle_of, pieces, zero_of
from evenlater.backs import back_deal, has_back
from evenlater.between import made_between
from evenlater.dealing import dealt, dealt_row
from evenlater.dealmaking import single_deal
from evenlater.dealsums import added, scaled, taken
from evenlater.errors import InvalidPaper, NotUsable, Unrecalled
from evenlater.lasting import lasting_of
from evenlater.making import is_made_left
from evenlater.mirrors import mirrored
from evenlater.ones import one_of
from evenlater.pieces import pieces_of
from evenlater.rankmaking import deal_of_ranks
from evenlater.ranks import ranks_of
from evenlater.recalls import lets_recall, recall_of
from evenlater.sides import left_side, right_side
from samples import CLOCKS, FLIP, JUNK, LOOSE, POINT, SEVEN, SIX, SLIPS, dice, drawn_deal, drawn_move, edge, size
from test_evens import EDGES
from test_falls import mixed_deals
from test_ranks import thin_deals

SOLVED = [*EDGES[:6], (2, ()), (6, ()), (1, ((2, 1), (3, 1)))]
LARGE = [(7, ((2, 6), (3, 2))), (21, ((2, 20),)), (42, ()), (7, ((2, 1), (3, 4))), (1, ((2, 1), (3, 1), (7, 1)))]


def each(seed, clocks=SOLVED):
    rng = dice(seed)
    for clock in clocks:
        for deal in [*mixed_deals(clock, rng)[:8], *thin_deals(clock, rng), zero_of(clock), idle_of(clock)]:
            yield clock, deal


class Recalls(unittest.TestCase):
    def test_the_rules_of_a_recall(self):
        for clock, deal in each(101):
            recall = recall_of(clock, deal)
            self.assertEqual(dealt_row(clock, (deal, recall, deal)), deal)
            self.assertEqual(dealt_row(clock, (recall, deal, recall)), recall)
            for side in (dealt(clock, deal, recall), dealt(clock, recall, deal)):
                self.assertEqual(mirrored(clock, side), side)
            self.assertIs(lets_recall(clock, deal, recall), True)

    def test_recalls_of_what_is_made_of_a_deal(self):
        rng = dice(102)
        for clock, deal in each(103):
            recall = recall_of(clock, deal)
            self.assertEqual(recall_of(clock, recall), deal)
            self.assertEqual(recall_of(clock, mirrored(clock, deal)), mirrored(clock, recall))
            self.assertEqual(recall_of(clock, scaled(clock, deal, (-2, 7))), scaled(clock, recall, (-7, 2)))
            self.assertEqual(ranks_of(clock, recall), ranks_of(clock, deal))
            move = drawn_move(clock, rng)
            single, back = single_deal(clock, move, (1, 1)), mirrored(clock, single_deal(clock, move, (1, 1)))
            self.assertEqual(recall_of(clock, dealt(clock, single, deal)), dealt(clock, recall, back))

    def test_own_mirrors_that_are_own_squares_and_single_moves(self):
        for clock in [clock for clock in CLOCKS if size(clock) <= 42]:
            for deal in [*[one_of(clock, piece) for piece in pieces_of(clock)], zero_of(clock), idle_of(clock)]:
                self.assertEqual(recall_of(clock, deal), deal)
            move = drawn_move(clock, dice(104))
            single = single_deal(clock, move, (3, 4))
            self.assertEqual(recall_of(clock, single), mirrored(clock, single_deal(clock, move, (4, 3))))
        self.assertEqual([recall_of(POINT, (2, (3,))), recall_of(POINT, (1, (0,))), recall_of(POINT, (1, (-5,)))],
                         [(3, (2,)), (1, (0,)), (5, (-1,))])

    def test_forty_two_moves(self):
        rng = dice(105)
        for clock in LARGE:
            deal = drawn_deal(clock, rng, 99)
            self.assertIs(lets_recall(clock, deal, recall_of(clock, deal)), True)
            thin = (1, tuple(int(k % 3 == 0) - int(k % 7 == 1) for k in range(42)))
            self.assertIs(lets_recall(clock, thin, recall_of(clock, thin)), True)
        for clock, figures in [(SIX, 20), (LOOSE, 20), ((15, ((2, 14),)), 4), ((5, ((2, 4), (3, 1))), 4), ((10, ()), 12)]:
            deal = drawn_deal(clock, rng, 10 ** figures - 1)
            self.assertIs(lets_recall(clock, deal, recall_of(clock, deal)), True)
            self.assertEqual(dealt(clock, deal, back_deal(clock, deal)), idle_of(clock))
            self.assertEqual(lasting_of(clock, deal), deal)
            ahead, behind = made_between(clock, deal, even_of(clock, 10 ** figures - 1))
            self.assertEqual(dealt_row(clock, (ahead, deal, behind)), even_of(clock, 10 ** figures - 1))
        long = (10 ** 29 + 1, (10 ** 29, 3, -(10 ** 29)))
        self.assertIs(lets_recall((3, ()), long, recall_of((3, ()), long)), True)
        self.assertIs(lets_recall(POINT, (10 ** 29, (7,)), recall_of(POINT, (10 ** 29, (7,)))), True)


class Papers(unittest.TestCase):
    def assert_invalid(self, word, thing, deal=FLIP, clock=SIX):
        with self.assertRaises(InvalidPaper) as caught:
            lets_recall(clock, deal, thing)
        self.assertEqual((caught.exception.word, caught.exception.at), (word, -1))

    def test_shape(self):
        for thing in BAD_DEALS:
            self.assert_invalid("shape", thing)
        for thing in JUNK:
            self.assert_invalid("shape", thing, (1, (0,)), POINT)

    def test_words(self):
        self.assert_invalid("again", zero_of(SIX))
        self.assert_invalid("again", (1, (0,) * 6), SLIPS)
        self.assert_invalid("again", idle_of(SIX))
        self.assert_invalid("itself", (2, (1, 0, 0, 0, 0, 0)))
        self.assert_invalid("itself", idle_of(SIX), zero_of(SIX))
        self.assertIs(lets_recall(clock=SIX, deal=FLIP, thing=(4, (1, 0, 0, 1, 0, 0))), True)

    def test_own_mirrors(self):
        """With more added that does not meet the deal on one side, W still brings it back, but a side is no mirror."""
        rng, told = dice(106), set()
        for clock, deal in each(107, [SIX, SEVEN, (15, ((2, 14),))]):
            recall, idle = recall_of(clock, deal), idle_of(clock)
            left, right = dealt(clock, recall, deal), dealt(clock, deal, recall)
            more = drawn_deal(clock, rng)
            ahead = added(clock, recall, dealt(clock, dealt(clock, taken(clock, idle, left), more), right))
            behind = added(clock, recall, dealt(clock, dealt(clock, left, more), taken(clock, idle, right)))
            for thing, word in [(ahead, "left"), (behind, "right")]:
                if thing != recall:
                    self.assert_invalid(word, thing, deal, clock)
                    told.add(word)
            both = dealt_row(clock, (ahead, deal, behind))
            if ahead != recall and behind != recall:
                self.assert_invalid("left", both, deal, clock)
        self.assertEqual(told, {"left", "right"})

    def test_deals_come_first(self):
        for deal in BAD_DEALS:
            with self.assertRaises(NotUsable) as caught:
                lets_recall(SIX, deal, None)
            self.assertEqual((caught.exception.word, caught.exception.at), ("deal", -1))


class Sides(unittest.TestCase):
    def test_sides(self):
        for clock, deal in each(108):
            recall, left, right = recall_of(clock, deal), left_side(clock, deal), right_side(clock, deal)
            self.assertEqual((left, right), (dealt(clock, recall, deal), dealt(clock, deal, recall)))
            for side in (left, right):
                self.assertEqual((mirrored(clock, side), dealt(clock, side, side)), (side, side))
                self.assertEqual(ranks_of(clock, side), ranks_of(clock, deal))
                self.assertEqual(recall_of(clock, side), side)
            self.assertEqual([dealt(clock, deal, left), dealt(clock, right, deal)], [deal, deal])
            self.assertEqual(right, left_side(clock, mirrored(clock, deal)))
            self.assertTrue(is_made_left(clock, left, deal) and is_made_left(clock, deal, left))

    def test_edges(self):
        for clock in SOLVED:
            self.assertEqual([left_side(clock, zero_of(clock)), right_side(clock, even_of(clock, 5)),
                              left_side(clock, idle_of(clock))], [zero_of(clock), even_of(clock), idle_of(clock)])


class Backs(unittest.TestCase):
    def test_backs(self):
        told = set()
        for clock, deal in each(109):
            edges = [edge(clock, a) for a, _ in pieces_of(clock)]
            lacking = [piece for piece, rank, e in zip(pieces_of(clock), ranks_of(clock, deal), edges) if rank < e]
            self.assertIs(has_back(clock, deal), lacking == [])
            told.add(lacking == [])
            if lacking:
                self.assert_none(clock, deal, lacking[0])
            else:
                back = back_deal(clock, deal)
                self.assertEqual([dealt(clock, deal, back), dealt(clock, back, deal)], [idle_of(clock)] * 2)
                self.assertEqual(back, recall_of(clock, deal))
        self.assertEqual(told, {True, False})

    def assert_none(self, clock, deal, piece):
        with self.assertRaises(Unrecalled) as caught:
            back_deal(clock, deal)
        self.assertEqual(vars(caught.exception), {"piece": piece})

    def test_the_first_piece_that_lacks_rank(self):
        for clock in [SIX, SEVEN, LOOSE]:
            every = pieces_of(clock)
            full = tuple(edge(clock, a) for a, _ in every)
            for at, piece in enumerate(every):
                ranks = full[:at] + (full[at] - 1,) + (0,) * (len(full) - at - 1)
                self.assert_none(clock, deal_of_ranks(clock, ranks), piece)
        self.assert_none(POINT, (1, (0,)), (1, 1))

    def test_has_back_is_not_solved(self):
        for clock in [(29, ((2, 28),)), (19, ((3, 7),)), (11, ((5, 3),))]:
            self.assertIs(has_back(clock, idle_of(clock)), True)
            self.assertIs(has_back(clock, even_of(clock)), False)
        self.assertIs(has_back(SIX, (10 ** 29 + 1, (10 ** 29, 3, 5, 7, 11, 13))), True)
        self.assertEqual(len(pieces((11, ((5, 3),)))), 3)


if __name__ == "__main__":
    unittest.main()
