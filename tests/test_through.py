"""Two deals that are even through a third one: deals with a back, papers of them, and single moves."""

import unittest

from calls import BAD, BAD_DEALS, even_of, idle_of, pieces, zero_of
from evenlater.backs import back_deal
from evenlater.dealing import dealt, dealt_again
from evenlater.dealmaking import deal_on, even_on, single_deal
from evenlater.dealsums import added, scaled
from evenlater.errors import InvalidPaper, NotUsable, Uneven
from evenlater.exchanging import deal_of_classes, exchange_many
from evenlater.frames import frame_of
from evenlater.mirrors import mirrored, turned_deal
from evenlater.movesthrough import moves_through
from evenlater.pieces import pieces_of
from evenlater.rankmaking import deal_of_ranks
from evenlater.through import even_through
from evenlater.throughpapers import lets_through, through_paper
from samples import CLOCKS, FLIP, JUNK, LOOSE, POINT, SEVEN, SIX, SLIPS, all_clocks, dice, drawn_deal, drawn_move
from samples import edge, moves, own_dealt, size, turns
from test_eveners import IDLE, TINY, is_flat, own_crowded
from test_making import BACK, STEP, pairs

# clocks with at most twenty-two moves some of whose pieces have an edge above 1
EDGED = [clock for clock in all_clocks() if size(clock) <= 22 and edge(clock, clock[0]) > 1]


def ranked_pairs(seed, clocks):
    """Deals of drawn ranks in pairs, many of which just do not crowd a piece; with short weights."""
    rng = dice(seed)
    for clock in clocks:
        edges = [edge(clock, a) for a, _ in pieces(clock)]
        for _ in range(12):
            least = [rng.randint(0, e) for e in edges]
            most = [rng.choice([e - r, e - r, rng.randint(0, e)]) for e, r in zip(edges, least)]
            one, other = [deal_of_ranks(clock, tuple(ranks)) for ranks in (least, most)]
            move, by = drawn_move(clock, rng), drawn_move(clock, rng)
            yield clock, dealt(clock, one, single_deal(clock, move, (1, 1))), turned_deal(clock, mirrored(clock, other), by)


def thin_pairs(seed, clock, most):
    """Deals of lower ranks with as many figures as most has, in pairs."""
    rng = dice(seed)
    line = deal_on(clock, tuple(sorted((0, t) for t in range(turns(clock)))))
    for _ in range(12):
        rows = [(1, tuple(rng.randint(-most, most) for _ in range(size(clock)))) for _ in range(2)]
        pair = [dealt(clock, line, rows[0]) if rng.randrange(2) else dealt(clock, rows[0], line), dealt(clock, rows[1], line)]
        yield clock, pair[0], pair[1]
        yield clock, pair[1], mirrored(clock, pair[0])


class Through(unittest.TestCase):
    def judge(self, clock, one, other):
        crowded = own_crowded(clock, one, other)
        if crowded:
            with self.assertRaises(Uneven) as caught:
                even_through(clock, one, other)
            self.assertEqual(vars(caught.exception), {"piece": crowded[0]})
            return False
        pair = even_through(clock, one, other)
        self.assertEqual((pair.__class__, len(pair)), (tuple, 2))
        self.assertTrue(is_flat(own_dealt(clock, own_dealt(clock, one, pair[0]), other)))
        self.assertEqual([own_dealt(clock, *pair), own_dealt(clock, *pair[::-1])], [idle_of(clock)] * 2)
        self.assertLess(max(abs(weight) for deal in pair for weight in (deal[0], *deal[1])), 10 ** 999)
        return True

    def test_deals_of_told_ranks(self):
        told = [self.judge(clock, one, other) for clock, one, other in ranked_pairs(231, [*EDGED, *TINY])]
        self.assertGreater(min(told.count(True), told.count(False)), 20)

    def test_drawn_pairs(self):
        told = [self.judge(clock, one, other) for clock, one, other in pairs(232, TINY)]
        self.assertGreater(min(told.count(True), told.count(False)), 20)

    def test_where_no_single_move_does(self):
        found = 0
        for clock, figures in [(SIX, 5), ((5, ((2, 4),)), 3), ((7, ((2, 6),)), 2), (SEVEN, 1), ((11, ((2, 10),)), 1)]:
            for clock, one, other in thin_pairs(233, clock, (10 ** figures - 1) // 3):
                if self.judge(clock, one, other) and not moves_through(clock, one, other):
                    found += 1
        self.assertGreater(found, 20)

    def test_places_of_a_frame(self):
        for clock in [SIX, SEVEN, (7, ((2, 6),))]:
            frame = frame_of(clock, (clock[0], 1))
            e = len(frame)
            for i in range(e):
                for j in range(e):
                    self.assertTrue(self.judge(clock, frame[0][i], frame[j][0]))
                    self.assertTrue(self.judge(clock, frame[i][i], frame[i][j]))
            last = added(clock, frame[0][0], frame[1][1])
            self.assertIs(self.judge(clock, last, frame[1][0]), e > 2)
            self.assertIs(self.judge(clock, frame[1][0], last), e > 2)

    def test_both_ways(self):
        """A pair for one and other is there exactly if there is one for other and one."""
        for clock, one, other in ranked_pairs(234, EDGED[:4]):
            self.assertIs(self.judge(clock, one, other), self.judge(clock, other, one))

    def test_edges(self):
        for clock in [*TINY, (22, ()), (1, ((2, 1), (11, 1)))]:
            zero, idle, even = zero_of(clock), idle_of(clock), even_of(clock, 4)
            for one in (zero, idle, even):
                self.assertTrue(self.judge(clock, one, zero) and self.judge(clock, even, one))
            self.assertIs(self.judge(clock, idle, idle), size(clock) == 1)
        self.assertTrue(self.judge(POINT, (7, (10 ** 29,)), (1, (-3,))))
        U, V = even_through(other=SLIPS, one=FLIP, clock=SIX)
        self.assertEqual((is_flat(own_dealt(SIX, own_dealt(SIX, FLIP, U), SLIPS)), own_dealt(SIX, U, V)), (True, IDLE))


class Papers(unittest.TestCase):
    def assert_invalid(self, word, at, thing, one=FLIP, other=SLIPS, clock=SIX):
        with self.assertRaises(InvalidPaper) as caught:
            lets_through(clock, one, other, thing)
        self.assertEqual((caught.exception.word, caught.exception.at), (word, at))

    def test_papers(self):
        for clock, one, other in ranked_pairs(235, EDGED[:5]):
            paper, crowded = through_paper(clock, one, other), own_crowded(clock, one, other)
            if crowded:
                self.assertEqual(paper, ("crowded", crowded[0]))
            else:
                self.assertEqual((paper.__class__, paper[0], paper[1:]), (tuple, "through", even_through(clock, one, other)))
            self.assertEqual(lets_through(clock, one, other, paper), paper[0])

    def test_each_crowded_piece_and_no_other(self):
        for clock, one, other in [*ranked_pairs(236, EDGED[:4]), *pairs(237, [LOOSE, (6, ()), (1, ((2, 1), (3, 1)))])]:
            crowded = own_crowded(clock, one, other)
            for piece in pieces_of(clock):
                if piece in crowded:
                    self.assertEqual(lets_through(clock, one, other, ("crowded", piece)), "crowded")
                else:
                    self.assert_invalid("ranks", -1, ("crowded", piece), one, other, clock)
        self.assert_invalid("ranks", -1, ("crowded", (1, 1)), IDLE, IDLE)

    def test_shape(self):
        for thing in [*JUNK, (), ("through",), ("through", STEP), ("through", STEP, BACK, BACK), ["through", STEP, BACK],
                      ("Through", STEP, BACK), ("crowded", STEP, BACK), (None, STEP, BACK), ("crowded",),
                      ["crowded", (3, 1)], ("Crowded", (3, 1)), ("through", (3, 1)), ((3, 1), "crowded"),
                      ("crowded", (3, 1), ()), (STEP, BACK), (("crowded",), (3, 1)), "through", "crowded", (True, 1)]:
            self.assert_invalid("shape", -1, thing)

    def test_deals(self):
        for bad in BAD_DEALS:
            self.assert_invalid("deal", 1, ("through", bad, bad))
            self.assert_invalid("deal", 1, ("through", bad, BACK))
            self.assert_invalid("deal", 2, ("through", STEP, bad))
            self.assert_invalid("deal", 2, ("through", IDLE, bad))

    def test_even_and_back(self):
        zero = zero_of(SIX)
        self.assert_invalid("even", -1, ("through", IDLE, IDLE))
        self.assert_invalid("even", -1, ("through", IDLE, STEP))
        self.assert_invalid("back", -1, ("through", STEP, STEP))
        self.assert_invalid("back", -1, ("through", STEP, scaled(SIX, BACK, (2, 1))))
        # what is even through the zero deal is so without a back
        self.assert_invalid("back", -1, ("through", zero, zero))
        self.assert_invalid("back", -1, ("through", zero, zero), IDLE, IDLE)
        self.assertEqual(lets_through(SIX, FLIP, SLIPS, ("through", STEP, BACK)), "through")
        twice = scaled(SIX, STEP, (-2, 3)), scaled(SIX, BACK, (-3, 2))
        self.assertEqual(lets_through(thing=("through", *twice), other=SLIPS, one=FLIP, clock=SIX), "through")
        self.assertEqual(lets_through(SIX, SLIPS, FLIP, ("through", IDLE, IDLE)), "through")

    def test_pieces(self):
        for bad in BAD["piece"]():
            self.assert_invalid("piece", 1, ("crowded", bad))
        self.assert_invalid("ranks", -1, ("crowded", (3, 1)), FLIP, SLIPS)
        self.assertEqual(lets_through(SIX, IDLE, SLIPS, ("crowded", (3, 1))), "crowded")

    def test_own_results_as_papers(self):
        """Deals that the package returned, with many figures."""
        clock, one = SEVEN, drawn_deal(SEVEN, dice(238), 99)
        deal = dealt_again(clock, one, 3)
        paper = ("through", deal, back_deal(clock, deal))
        self.assertEqual(lets_through(clock, even_of(clock), one, paper), "through")
        self.assert_invalid("back", -1, ("through", deal, deal), even_of(clock), one, clock)

    def test_every_clock_with_small_boards(self):
        for clock in [clock for clock in CLOCKS if size(clock) <= 42]:
            idle = idle_of(clock)
            self.assertEqual(lets_through(clock, even_of(clock), idle, ("through", idle, idle)), "through")
            if size(clock) > 1:
                self.assert_invalid("even", -1, ("through", idle, idle), idle, idle, clock)
                piece = pieces(clock)[-1]
                self.assertEqual(lets_through(clock, idle, idle, ("crowded", piece)), "crowded")

    def test_parameters_in_their_order(self):
        for one, other, name in [(None, None, "one"), (SLIPS, None, "other"), ((2, (2,) * 6), FLIP, "one")]:
            with self.assertRaises(NotUsable) as caught:
                lets_through(SIX, one, other, None)
            self.assertEqual((caught.exception.word, caught.exception.at), (name, -1))


class Moves(unittest.TestCase):
    def own(self, clock, one, other):
        found = []
        for move in sorted(moves(clock)):
            single = single_deal(clock, move, (1, 1))
            if is_flat(own_dealt(clock, own_dealt(clock, one, single), other)):
                found.append(move)
        return tuple(found)

    def test_each_move_is_tried(self):
        told = set()
        for clock, one, other in [*pairs(241, TINY[:4]), *ranked_pairs(242, EDGED[:2])]:
            found = moves_through(clock, one, other)
            self.assertEqual(found, self.own(clock, one, other))
            if found:
                self.assertEqual(own_crowded(clock, one, other), [])
            told.add((len(found) > 0) + (len(found) == size(clock)))
        self.assertEqual(told, {0, 1, 2})

    def test_weights_that_are_equal_within_each_class(self):
        rng = dice(243)
        for clock in [SIX, SEVEN, LOOSE, (7, ((2, 6),))]:
            alike = [deal_of_classes(clock, tuple((rng.randint(-2, 2), 1) for _ in range(exchange_many(clock))))
                     for _ in range(4)]
            for some in [*alike, even_of(clock), even_on(clock, (clock[0], 1, 0)), idle_of(clock)]:
                for one, other in [(some, SLIPS), (SLIPS, some)] if clock == SIX else [(some, some)]:
                    self.assertIn(len(moves_through(clock, one, other)), (0, size(clock)))

    def test_edges(self):
        self.assertEqual([moves_through(SIX, SLIPS, FLIP), moves_through(SIX, FLIP, SLIPS)], [((0, 0), (0, 1)), ()])
        self.assertEqual(moves_through(POINT, (1, (5,)), (2, (3,))), ((0, 0),))
        for clock in [(30, ()), (10, ((3, 1),)), (15, ((2, 14),)), (5, ((2, 4), (3, 1)))]:
            deal = drawn_deal(clock, dice(244), 10 ** 29)
            self.assertEqual(moves_through(clock, even_of(clock), deal), tuple(sorted(moves(clock))))
            self.assertEqual(moves_through(clock, idle_of(clock), deal), ())
            parts = even_on(clock, (clock[0], 1, 0)), even_on(clock, (1, turns(clock), 0))
            self.assertEqual(moves_through(clock, *parts), tuple(sorted(moves(clock))))


if __name__ == "__main__":
    unittest.main()
