"""Frames, deals evened out within classes, and deals that can be exchanged with all."""

import unittest
from fractions import Fraction
from itertools import product

from calls import idle_of, pieces, some_deals, zero_of
from evenlater.dealing import dealt
from evenlater.dealmaking import single_deal
from evenlater.dealsums import added, scaled
from evenlater.errors import InvalidPaper, NotUsable
from evenlater.exchanging import class_deals, class_weights, deal_of_classes, exchange_many
from evenlater.frames import frame_of, lets_frame
from evenlater.mirrors import turned_deal
from evenlater.ones import one_of
from evenlater.pieces import pieces_of
from evenlater.quotients import quotient_of
from evenlater.ranks import ranks_of
from evenlater.signs import can_exchange
from evenlater.smoothing import class_totals, smoothed
from samples import CLOCKS, FLAT, JUNK, LOOSE, POINT, SEVEN, SIX, SLIPS, SMALL_CLOCKS, all_clocks, deal_for, dice
from samples import drawn_deal, edge, fractions, moves, size, turned

EDGES = [SIX, SEVEN, (11, ((5, 3),)), (7, ((2, 6), (3, 2))), (15, ((2, 14),)), (10, ((3, 1),)), LOOSE, POINT]
ONE, HALF = (3, (1, -1, 0, 0, 1, -1)), (1, (0, 1, -1, 0, 0, 0))


class Frames(unittest.TestCase):
    def test_the_rules_for_all_four_places(self):
        for clock in EDGES:
            for piece in pieces(clock):
                frame, e = frame_of(clock, piece), edge(clock, piece[0])
                self.assertEqual((len(frame), {len(row) for row in frame}), (e, {e}))
                places = range(e) if e < 5 else (0, 2, e - 1)
                for i, j, k, m in product(places, repeat=4):
                    told = frame[i][m] if j == k else zero_of(clock)
                    self.assertEqual(dealt(clock, frame[i][j], frame[k][m]), told)
                total = zero_of(clock)
                for i in range(e):
                    total = added(clock, total, frame[i][i])
                self.assertEqual(total, one_of(clock, piece))

    def test_every_piece_of_every_clock(self):
        for clock in all_clocks():
            for piece in pieces(clock):
                frame = frame_of(clock, piece)
                self.assertEqual(lets_frame(clock, piece, frame), edge(clock, piece[0]))
                if edge(clock, piece[0]) == 1:
                    self.assertEqual(frame, ((one_of(clock, piece),),))

    def test_ranks(self):
        for clock in EDGES[:4]:
            for at, piece in enumerate(pieces_of(clock)):
                told = tuple(1 if k == at else 0 for k in range(len(pieces(clock))))
                for row in frame_of(clock, piece):
                    self.assertEqual([ranks_of(clock, deal) for deal in row], [told] * len(row))

    def test_frames_of_another_kind(self):
        """Each frame turned by a move is one, with its rows and columns exchanged and multiplied alike, too."""
        for clock, piece in [(SIX, (3, 1)), (SEVEN, (7, 1))]:
            frame, e = frame_of(clock, piece), edge(clock, piece[0])
            for by in moves(clock)[::2]:
                other = tuple(tuple(turned_deal(clock, deal, by) for deal in row) for row in frame)
                self.assertEqual(lets_frame(clock, piece, other), e)
            order = [*range(1, e), 0]
            other = tuple(tuple(scaled(clock, frame[i][j], quotient_of(i + 2, j + 2)) for j in order) for i in order)
            self.assertEqual(lets_frame(clock, piece, other), e)
            self.assertEqual(lets_frame(clock=clock, piece=piece, thing=other), e)


class FramePapers(unittest.TestCase):
    def assert_invalid(self, told, thing, clock=SIX, piece=(3, 1)):
        with self.assertRaises(InvalidPaper) as caught:
            lets_frame(clock, piece, thing)
        self.assertEqual((caught.exception.word, caught.exception.at), told)

    def test_shape(self):
        (a, b), (c, d) = frame_of(SIX, (3, 1))
        for thing in [*JUNK, (), ((a,),), ((a, b),), ((a, b), (c,)), ((a, b), (c, d), (a, b)), [(a, b), (c, d)],
                      ((a, b), [c, d]), ((a, b), (c, None)), ((a, b), (c, (2, (2,) * 6))), ((a, b, c), (c, d, a)),
                      ((a, b), (c, (True, (0,) * 6))), ((a, b), (c, d[1])), (a, b)]:
            self.assert_invalid(("shape", -1), thing)
        self.assert_invalid(("shape", -1), frame_of(SIX, (3, 1)), piece=(1, 2))

    def test_across_and_meets_pair_by_pair(self):
        (a, b), (c, d) = frame_of(SIX, (3, 1))
        zero = zero_of(SIX)
        self.assert_invalid(("across", (0, 0)), ((scaled(SIX, a, (2, 1)), b), (c, d)))
        self.assert_invalid(("across", (0, 1)), ((a, d), (c, d)))
        self.assert_invalid(("meets", (0, 1)), ((a, b), (a, dealt(SIX, a, b))))
        self.assert_invalid(("across", (1, 0)), ((a, zero), (d, zero)))
        self.assert_invalid(("across", (1, 1)), ((a, b), (c, a)))
        self.assert_invalid(("meets", (1, 1)), ((a, b), (scaled(SIX, c, (2, 1)), scaled(SIX, d, (2, 1)))))
        self.assert_invalid(("meets", (0, 1)), ((ONE, ONE), (ONE, ONE)))
        self.assert_invalid(("meets", (1, 0)), ((a, a), (c, c)))

    def test_sum(self):
        zero = zero_of(SIX)
        self.assert_invalid(("sum", -1), ((zero, zero), (zero, zero)))
        self.assert_invalid(("sum", -1), ((zero,),), piece=(1, 2))
        self.assert_invalid(("sum", -1), ((idle_of(SIX),),), piece=(1, 1))
        self.assert_invalid(("sum", -1), ((one_of(SIX, (1, 2)),),), piece=(1, 1))
        self.assert_invalid(("sum", -1), frame_of(LOOSE, (3, 1)), LOOSE, (3, 2))

    def test_each_place_and_each_word_of_larger_frames(self):
        """What is let is a frame: with one deal changed, no frame is let."""
        rng = dice(51)
        for clock, piece in [(SEVEN, (7, 1)), (SIX, (3, 1)), (FLAT, (6, 1))]:
            frame, e = frame_of(clock, piece), edge(clock, piece[0])
            for i, j in product(range(e), repeat=2):
                for change in (drawn_deal(clock, rng), zero_of(clock), scaled(clock, frame[i][j], (-1, 1))):
                    rows = [list(row) for row in frame]
                    rows[i][j] = change
                    with self.assertRaises(InvalidPaper) as caught:
                        lets_frame(clock, piece, tuple(map(tuple, rows)))
                    self.assertEqual((caught.exception.word, caught.exception.at), self.first(clock, piece, rows))

    def first(self, clock, piece, f):
        """The first word and place, from the document."""
        e = edge(clock, piece[0])
        for i, j in product(range(e), repeat=2):
            if dealt(clock, f[i][0], f[0][j]) != f[i][j]:
                return "across", (i, j)
            if dealt(clock, f[0][i], f[j][0]) != (f[0][0] if i == j else zero_of(clock)):
                return "meets", (i, j)
        return "sum", -1

    def test_pieces_come_first(self):
        with self.assertRaises(NotUsable) as caught:
            lets_frame(SIX, (3, 2), None)
        self.assertEqual((caught.exception.word, caught.exception.at), ("piece", -1))


def plain_classes(clock):
    return sorted({tuple(sorted({turned(clock, move, by) for by in moves(clock)})) for move in moves(clock)})


class Classes(unittest.TestCase):
    def test_class_totals(self):
        for clock in SMALL_CLOCKS:
            classes = plain_classes(clock)
            for deal in some_deals(clock):
                weights = dict(zip(moves(clock), fractions(deal)))
                plain = [sum(weights[move] for move in some) for some in classes]
                self.assertEqual(class_totals(clock, deal), tuple((p.numerator, p.denominator) for p in plain))
                shares = [plain[k] / len(some) for move in moves(clock) for k, some in enumerate(classes)
                          if move in some]
                self.assertEqual(smoothed(clock, deal), deal_for(shares))

    def test_smoothed_is_a_mean_of_turned_deals(self):
        rng = dice(52)
        for clock in SMALL_CLOCKS:
            deal, total = drawn_deal(clock, rng), zero_of(clock)
            for by in moves(clock):
                total = added(clock, total, turned_deal(clock, deal, by))
            self.assertEqual(smoothed(clock, deal), scaled(clock, total, (1, size(clock))))
            self.assertEqual(smoothed(clock, smoothed(clock, deal)), smoothed(clock, deal))

    def test_class_totals_both_ways_about(self):
        rng = dice(53)
        for clock in CLOCKS:
            one, other = drawn_deal(clock, rng), drawn_deal(clock, rng)
            self.assertEqual(class_totals(clock, dealt(clock, one, other)),
                             class_totals(clock, dealt(clock, other, one)))

    def test_class_deals(self):
        for clock in SMALL_CLOCKS:
            classes = plain_classes(clock)
            rows = [(1, tuple(int(move in some) for move in moves(clock))) for some in classes]
            self.assertEqual((class_deals(clock), exchange_many(clock)), (tuple(rows), len(classes)))
            for row in rows:
                for move in moves(clock):
                    self.assertTrue(can_exchange(clock, row, single_deal(clock, move, (1, 1))))
        self.assertEqual([exchange_many((59, ())), exchange_many(POINT), exchange_many((29, ((2, 28),)))], [59, 1, 16])

    def test_class_weights(self):
        rng = dice(54)
        for clock in CLOCKS:
            told = tuple(self.drawn(rng) for _ in range(exchange_many(clock)))
            deal = deal_of_classes(clock, told)
            self.assertEqual(class_weights(clock, deal), told)
            total = zero_of(clock)
            for share, one in zip(told, class_deals(clock)):
                total = added(clock, total, scaled(clock, one, share))
            self.assertEqual(deal, total)
            ranks = ranks_of(clock, deal) if clock in SMALL_CLOCKS else ()
            edges = [edge(clock, a) for a, _ in pieces(clock)]
            self.assertTrue(all(rank in (0, e) for rank, e in zip(ranks, edges)))
        self.assertEqual(class_weights(SIX, (1, (5, -1, -1, 7, 7, 7))), ((5, 1), (7, 1), (-1, 1)))

    def drawn(self, rng):
        value = Fraction(rng.randint(-6, 6), rng.randint(1, 6))
        return value.numerator, value.denominator

    def test_unlike_weights_in_a_class_are_refused(self):
        for deal in [SLIPS, (1, (0, 1, 2, 0, 0, 0)), (1, (0, 0, 0, 1, 1, 2))]:
            with self.assertRaises(NotUsable) as caught:
                class_weights(SIX, deal)
            self.assertEqual((caught.exception.word, caught.exception.at), ("deal", -1))
        self.assertEqual(smoothed(SIX, (2, (1, 3, 5, 0, 0, 6))), (2, (1, 4, 4, 2, 2, 2)))


if __name__ == "__main__":
    unittest.main()
