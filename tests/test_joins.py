"""Joint and common deals, and what is made from both sides."""

import unittest

from calls import BAD_DEALS, even_of, idle_of, zero_of
from evenlater.between import made_between
from evenlater.betweenpapers import between_paper, lets_between
from evenlater.dealing import dealt, dealt_row
from evenlater.dealmaking import even_on
from evenlater.dealsums import scaled
from evenlater.errors import InvalidPaper, Lacking, NotUsable
from evenlater.frames import frame_of
from evenlater.joins import common_left, common_right, joint_left, joint_right
from evenlater.making import is_made_left
from evenlater.mirrors import mirrored, turned_deal
from evenlater.ones import ones_of
from evenlater.pieces import pieces_of
from evenlater.rankmaking import deal_of_ranks
from evenlater.ranks import free_many, ranks_of
from evenlater.recalls import recall_of
from evenlater.sides import left_side
from samples import FLIP, JUNK, LOOSE, POINT, SEVEN, SIX, SLIPS, dice, drawn_deal, drawn_move, edge, size
from samples import quick_rank
from test_lasting import products
from test_making import pairs
from test_recalls import LARGE, SOLVED


def span(rows):
    return quick_rank(tuple(rows))


class Joins(unittest.TestCase):
    def assert_own(self, clock, deal):
        self.assertEqual((mirrored(clock, deal), dealt(clock, deal, deal)), (deal, deal))

    def test_what_is_made_of_the_joint_and_of_the_common_deal(self):
        for clock, one, other in pairs(121):
            joint, common = joint_left(clock, one, other), common_left(clock, one, other)
            self.assert_own(clock, joint)
            self.assert_own(clock, common)
            ones, others = products(clock, one), products(clock, other)
            both = span(ones + others)
            self.assertEqual((span(products(clock, joint)), span(ones + others + products(clock, joint))), (both, both))
            meet = span(ones) + span(others) - both
            self.assertEqual(span(products(clock, common)), meet)
            self.assertTrue(is_made_left(clock, one, common) and is_made_left(clock, other, common))
            ranks = [ranks_of(clock, deal) for deal in (joint, common, one, other)]
            self.assertTrue(all(a + b == c + d for a, b, c, d in zip(*ranks)))

    def test_from_the_right(self):
        for clock, one, other in pairs(122, [SIX, SEVEN, POINT, LOOSE]):
            mirrors = mirrored(clock, one), mirrored(clock, other)
            self.assertEqual(joint_right(clock, one, other), joint_left(clock, *mirrors))
            self.assertEqual(common_right(clock, one, other), common_left(clock, *mirrors))
            self.assertEqual(dealt(clock, joint_right(clock, one, other), one), one)
            self.assertEqual(dealt(clock, joint_right(clock, one, other), other), other)

    def test_with_itself_with_zero_and_with_idle(self):
        for clock, one, _ in pairs(123, SOLVED[:5]):
            left, zero, idle = left_side(clock, one), zero_of(clock), idle_of(clock)
            self.assertEqual([joint_left(clock, one, one), common_left(clock, one, one)], [left, left])
            self.assertEqual([joint_left(clock, one, zero), common_left(clock, one, zero)], [left, zero])
            self.assertEqual([joint_left(clock, idle, one), common_left(clock, idle, one)], [idle, left])
            self.assertEqual([joint_right(clock, zero, zero), common_right(clock, idle, idle)], [zero, idle])

    def test_sets_of_pieces(self):
        for clock in [clock for clock in SOLVED if size(clock) <= 30]:
            every = pieces_of(clock)
            one, other = ones_of(clock, every[:2]), ones_of(clock, every[1:])
            self.assertEqual([joint_left(clock, one, other), common_left(clock, one, other)],
                             [ones_of(clock, every), ones_of(clock, every[1:2])])

    def test_thirty_moves(self):
        rng = dice(124)
        for clock in [(30, ()), (10, ((3, 1),)), (15, ((2, 14),)), (5, ((2, 4), (3, 1)))]:
            one, other = even_on(clock, (1, size(clock) // clock[0], 0)), drawn_deal(clock, rng, 9)
            other = dealt(clock, even_on(clock, (clock[0], 1, 0)), (1, other[1]))
            one, other = scaled(clock, one, (one[0], 1)), (1, tuple(k % 3 for k in range(30)))
            joint, common = joint_left(clock, one, other), common_left(clock, one, other)
            self.assert_own(clock, joint)
            self.assert_own(clock, common)
            self.assertEqual(free_many(clock, joint) + free_many(clock, common),
                             free_many(clock, one) + free_many(clock, other))


def between_pairs(seed, clocks=SOLVED):
    """Deals in pairs of all ranks, so that at times one lacks what the other one has."""
    rng = dice(seed)
    for clock in clocks:
        edges = [edge(clock, a) for a, _ in pieces_of(clock)]
        for _ in range(6):
            most = tuple(rng.randint(0, e) for e in edges)
            least = tuple(rng.randint(0, rank) for rank in most)
            some = [deal_of_ranks(clock, most), deal_of_ranks(clock, least)]
            some = [dealt(clock, deal, drawn_deal(clock, rng, 2)) for deal in some]
            yield clock, turned_deal(clock, some[0], drawn_move(clock, rng)), mirrored(clock, some[1])
            yield clock, some[1], some[0]


def lacking(clock, one, other):
    return [piece for piece, a, b in zip(pieces_of(clock), ranks_of(clock, one), ranks_of(clock, other)) if b > a]


class Between(unittest.TestCase):
    def judge(self, clock, one, other):
        lacks = lacking(clock, one, other)
        if lacks:
            with self.assertRaises(Lacking) as caught:
                made_between(clock, one, other)
            self.assertEqual(vars(caught.exception), {"piece": lacks[0]})
        else:
            made = made_between(clock, one, other)
            self.assertEqual((made.__class__, len(made)), (tuple, 2))
            self.assertEqual(dealt_row(clock, (made[0], one, made[1])), other)
        return not lacks

    def test_drawn_deals(self):
        told = [self.judge(clock, one, other) for clock, one, other in [*between_pairs(125), *pairs(126)]]
        self.assertGreater(min(told.count(True), told.count(False)), 20)

    def test_places_of_a_frame(self):
        """Where one, idle and other do not meet at all, moves must be found through which they do."""
        for clock in [SIX, SEVEN, (11, ((5, 3),)), (7, ((2, 6), (3, 2))), (15, ((2, 14),))]:
            frame = frame_of(clock, (clock[0], 1))
            e = len(frame)
            for i, j in [(0, e - 1), (e - 1, 0), (0, 1), (1, 1)]:
                for k in (0, e - 1):
                    self.assertTrue(self.judge(clock, frame[i][j], frame[e - 1 - j][k]))
            self.assertTrue(self.judge(clock, frame[0][1], zero_of(clock)))
            self.assertFalse(self.judge(clock, frame[0][1], idle_of(clock)))

    def test_edges(self):
        for clock in SOLVED:
            zero, idle = zero_of(clock), idle_of(clock)
            self.assertTrue(self.judge(clock, idle, idle) and self.judge(clock, zero, zero))
            self.assertTrue(self.judge(clock, idle, zero) and self.judge(clock, even_of(clock, 3), even_of(clock)))
            self.assertFalse(self.judge(clock, zero, even_of(clock)))

    def test_forty_two_moves(self):
        for clock, one, other in between_pairs(127, LARGE[:3]):
            if max(map(abs, (one[0], *one[1], other[0], *other[1]))) < 100:
                self.judge(clock, one, other)
        rng = dice(128)
        for clock in LARGE:
            self.assertTrue(self.judge(clock, drawn_deal(clock, rng, 9), even_of(clock)))


class Papers(unittest.TestCase):
    def assert_invalid(self, word, thing, one=SLIPS, other=FLIP, clock=SIX):
        with self.assertRaises(InvalidPaper) as caught:
            lets_between(clock, one, other, thing)
        self.assertEqual((caught.exception.word, caught.exception.at), (word, -1))

    def test_papers(self):
        for clock, one, other in between_pairs(129):
            paper, lacks = between_paper(clock, one, other), lacking(clock, one, other)
            if lacks:
                self.assertEqual(paper, ("lacks", lacks[0]))
            else:
                self.assertEqual((paper.__class__, len(paper), paper[0]), (tuple, 3, "between"))
            self.assertEqual(lets_between(clock, one, other, paper), paper[0])

    def test_any_piece_that_lacks_rank(self):
        for clock, one, other in between_pairs(130, [SIX, SEVEN, LOOSE]):
            lacks = lacking(clock, one, other)
            for piece in pieces_of(clock):
                if piece in lacks:
                    self.assertEqual(lets_between(clock, one, other, ("lacks", piece)), "lacks")
                else:
                    self.assert_invalid("rank", ("lacks", piece), one, other, clock)

    def test_shape(self):
        idle = idle_of(SIX)
        for thing in [*JUNK, (), ("between",), ("between", idle), ("between", idle, idle, idle), ["between", idle, idle],
                      ("Between", idle, idle), ("lacks", idle, idle), ("lacks",), ("lacks", (1, 1), ()),
                      ["lacks", (1, 1)], ("between", (1, 1)), (None, (1, 1)), ("made", idle), "between", "lacks"]:
            self.assert_invalid("shape", thing)
        for bad in BAD_DEALS:
            self.assert_invalid("shape", ("between", bad, idle))
            self.assert_invalid("shape", ("between", idle, bad))
        for bad in [*JUNK, (3, 2), (True, 1), [1, 1], (1,), (2, 1), (1, 1, 1), SLIPS]:
            self.assert_invalid("shape", ("lacks", bad))

    def test_product_and_rank(self):
        idle, zero = idle_of(SIX), zero_of(SIX)
        self.assert_invalid("product", ("between", idle, idle))
        self.assert_invalid("product", ("between", zero, idle))
        self.assertEqual(lets_between(SIX, SLIPS, SLIPS, ("between", idle, idle)), "between")
        back = recall_of(SIX, SLIPS)
        self.assertEqual(lets_between(SIX, back, SLIPS, ("between", SLIPS, SLIPS)), "between")
        self.assert_invalid("product", ("between", FLIP, SLIPS), SLIPS, FLIP)
        self.assert_invalid("rank", ("lacks", (3, 1)))
        self.assertEqual(lets_between(clock=SIX, one=FLIP, other=idle, thing=("lacks", (3, 1))), "lacks")

    def test_parameters_in_their_order(self):
        for one, other, name in [(None, None, "one"), (SLIPS, None, "other"), ((2, (2,) * 6), FLIP, "one")]:
            with self.assertRaises(NotUsable) as caught:
                lets_between(SIX, one, other, None)
            self.assertEqual((caught.exception.word, caught.exception.at), (name, -1))


if __name__ == "__main__":
    unittest.main()
