"""What is made of a deal from a side, papers of it, and the nearest deals."""

import unittest

from calls import BAD, BAD_DEALS, even_of, idle_of, zero_of
from evenlater.dealing import dealt
from evenlater.dealmaking import single_deal
from evenlater.dealsums import added, taken
from evenlater.errors import InvalidPaper, NotUsable, Unmade
from evenlater.makepapers import lets_made, made_paper
from evenlater.making import is_made_left, is_made_right, made_left, made_right
from evenlater.mirrors import mirrored
from evenlater.nearest import gap_left, gap_right, nearest_left, nearest_right
from evenlater.recalls import recall_of
from samples import FLIP, JUNK, POINT, SEVEN, SIX, SLIPS, dice, drawn_deal, drawn_move, fractions, moves
from samples import quick_rank
from test_lasting import is_zero, products
from test_ranks import thin_deals
from test_recalls import LARGE, SOLVED

STEP, BACK = (1, (1, 2, 0, 0, 0, 0)), (9, (1, -2, 4, 0, 0, 0))


def pairs(seed, clocks=SOLVED):
    """Deals in pairs, the second one made of the first one from the left, from the right, or from no side."""
    rng = dice(seed)
    for clock in clocks:
        some = thin_deals(clock, rng)
        for one in [some[0], some[3], some[7], some[8], zero_of(clock), even_of(clock)]:
            other, more = rng.choice(some), drawn_deal(clock, rng, 3)
            for second in (other, dealt(clock, more, one), dealt(clock, one, more), zero_of(clock)):
                yield clock, one, second


class Making(unittest.TestCase):
    def test_what_is_made(self):
        told = set()
        for clock, one, other in pairs(111):
            rows = products(clock, one)
            left = quick_rank((*rows, other[1])) == quick_rank(rows)
            columns = products(clock, mirrored(clock, one))
            right = quick_rank((*columns, mirrored(clock, other)[1])) == quick_rank(columns)
            self.assertIs(is_made_left(clock, one, other), left)
            self.assertIs(is_made_right(clock, one, other), right)
            self.judge(clock, one, other, left, right)
            told.add((left, right))
        self.assertEqual(len(told), 4)

    def judge(self, clock, one, other, left, right):
        recall, idle = recall_of(clock, one), idle_of(clock)
        if left:
            self.assertEqual(made_left(clock, one, other), dealt(clock, other, recall))
            self.assertEqual(dealt(clock, made_left(clock, one, other), one), other)
        else:
            witness = self.witness(made_left, clock, one, other)
            self.assertEqual(witness, taken(clock, idle, dealt(clock, recall, one)))
            self.assertTrue(is_zero(dealt(clock, one, witness)) and not is_zero(dealt(clock, other, witness)))
        if right:
            self.assertEqual(made_right(clock, one, other), dealt(clock, recall, other))
            self.assertEqual(dealt(clock, one, made_right(clock, one, other)), other)
        else:
            witness = self.witness(made_right, clock, one, other)
            self.assertEqual(witness, taken(clock, idle, dealt(clock, one, recall)))
            self.assertTrue(is_zero(dealt(clock, witness, one)) and not is_zero(dealt(clock, witness, other)))

    def witness(self, function, *values):
        with self.assertRaises(Unmade) as caught:
            function(*values)
        self.assertEqual(list(vars(caught.exception)), ["witness"])
        return caught.exception.witness

    def test_idle_and_zero(self):
        for clock in SOLVED:
            zero, idle = zero_of(clock), idle_of(clock)
            self.assertEqual([made_left(clock, idle, idle), made_right(clock, zero, zero)], [idle, zero])
            self.assertEqual(self.witness(made_left, clock, zero, idle), idle)
            self.assertEqual(self.witness(made_right, clock, zero, idle), idle)
        self.assertEqual([made_left(POINT, (2, (3,)), (1, (5,))), made_right(POINT, (1, (7,)), (1, (0,)))],
                         [(3, (10,)), (1, (0,))])
        self.assertEqual([made_left(one=STEP, other=SLIPS, clock=SIX), made_right(SIX, STEP, SLIPS)],
                         [dealt(SIX, SLIPS, BACK), dealt(SIX, BACK, SLIPS)])

    def test_forty_two_moves(self):
        rng = dice(112)
        for clock in LARGE[:3]:
            one = drawn_deal(clock, rng, 9)
            other = dealt(clock, single_deal(clock, drawn_move(clock, rng), (2, 1)), one)
            self.assertEqual(dealt(clock, made_left(clock, one, other), one), other)


class Papers(unittest.TestCase):
    def assert_invalid(self, word, side, one, other, thing):
        with self.assertRaises(InvalidPaper) as caught:
            lets_made(SIX, side, one, other, thing)
        self.assertEqual((caught.exception.word, caught.exception.at), (word, -1))

    def test_papers(self):
        for clock, one, other in pairs(113):
            for side, known in [("left", is_made_left), ("right", is_made_right)]:
                paper = made_paper(clock, side, one, other)
                word = "made" if known(clock, one, other) else "apart"
                self.assertEqual((paper.__class__, len(paper), paper[0]), (tuple, 2, word))
                self.assertEqual(lets_made(clock, side, one, other, paper), word)

    def test_sides(self):
        """What shows something for one side shows nothing for the other one."""
        paper = made_paper(SIX, "left", FLIP, SLIPS)
        self.assertEqual(lets_made(SIX, "left", FLIP, SLIPS, paper), "apart")
        made = made_paper(SIX, "right", FLIP, SLIPS)
        self.assertEqual(lets_made(SIX, "right", FLIP, SLIPS, made), "made")
        self.assert_invalid("product", "left", FLIP, SLIPS, made)
        witness = ("apart", (1, (1, -1, 0, 0, 0, 0)))
        self.assert_invalid("zero", "left", STEP, FLIP, witness)

    def test_shape(self):
        for thing in [*JUNK, (), ("made",), ("made", SLIPS, SLIPS), ["made", SLIPS], ("Made", SLIPS), (SLIPS, "made"),
                      (("made",), SLIPS), (None, SLIPS), (True, SLIPS), ("between", SLIPS), ("mad", SLIPS), "made"]:
            self.assert_invalid("shape", "left", FLIP, SLIPS, thing)
        for bad in BAD_DEALS:
            self.assert_invalid("shape", "left", FLIP, SLIPS, ("made", bad))
            self.assert_invalid("shape", "right", FLIP, SLIPS, ("apart", bad))

    def test_words(self):
        zero, idle = zero_of(SIX), idle_of(SIX)
        self.assert_invalid("product", "left", FLIP, SLIPS, ("made", idle))
        self.assert_invalid("product", "right", SLIPS, FLIP, ("made", zero))
        for side in ("left", "right"):
            self.assert_invalid("zero", side, FLIP, SLIPS, ("apart", idle))
            self.assert_invalid("other", side, FLIP, SLIPS, ("apart", zero))
            self.assert_invalid("zero", side, idle, zero, ("apart", idle))
            self.assertEqual(lets_made(SIX, side, zero, FLIP, ("apart", idle)), "apart")
            self.assertEqual(lets_made(SIX, side, FLIP, zero, ("made", zero)), "made")
        # Y with FLIP * Y 0: it shows that SLIPS is not made from the left, and nothing from the right
        turned = (1, (1, 0, 0, -1, 0, 0))
        self.assertEqual(lets_made(clock=SIX, side="left", one=FLIP, other=SLIPS, thing=("apart", turned)), "apart")
        self.assert_invalid("other", "right", FLIP, SLIPS, ("apart", turned))

    def test_parameters_in_their_order(self):
        for side in BAD["side"]():
            for function, more in [(made_paper, ()), (lets_made, (None,))]:
                with self.assertRaises(NotUsable) as caught:
                    function(SIX, side, None, None, *more)
                self.assertEqual((caught.exception.word, caught.exception.at), ("side", -1))


class Nearest(unittest.TestCase):
    def dot(self, one, other):
        return sum(a * b for a, b in zip(fractions(one), fractions(other)))

    def test_what_is_left_stands_across(self):
        rng = dice(114)
        for clock, one, other in pairs(115):
            near, left = nearest_left(clock, one, other), taken(clock, other, nearest_left(clock, one, other))
            self.assertTrue(is_made_left(clock, one, near))
            for _ in range(4):
                single = single_deal(clock, drawn_move(clock, rng), (1, 1))
                self.assertEqual(self.dot(dealt(clock, single, one), left), 0)
            near, right = nearest_right(clock, one, other), taken(clock, other, nearest_right(clock, one, other))
            self.assertTrue(is_made_right(clock, one, near))
            for _ in range(4):
                single = single_deal(clock, drawn_move(clock, rng), (1, 1))
                self.assertEqual(self.dot(dealt(clock, one, single), right), 0)
            for gap, rest in [(gap_left(clock, one, other), left), (gap_right(clock, one, other), right)]:
                square = self.dot(rest, rest)
                self.assertEqual(gap, (square.numerator, square.denominator))

    def test_formulas(self):
        for clock, one, other in pairs(116, [SIX, SEVEN, POINT]):
            recall = recall_of(clock, one)
            self.assertEqual(nearest_left(clock, one, other), dealt(clock, dealt(clock, other, recall), one))
            self.assertEqual(nearest_right(clock, one, other), dealt(clock, dealt(clock, one, recall), other))
            self.assertIs(gap_left(clock, one, other) == (0, 1), is_made_left(clock, one, other))
            self.assertIs(gap_right(clock, one, other) == (0, 1), is_made_right(clock, one, other))

    def test_none_is_nearer(self):
        rng = dice(117)
        for clock, one, other in pairs(118, [SIX, (6, ())]):
            near = nearest_left(clock, one, other)
            for _ in range(5):
                also = added(clock, near, dealt(clock, drawn_deal(clock, rng, 2), one))
                away = taken(clock, other, also)
                gap = gap_left(clock, one, other)
                self.assertLessEqual(gap[0], self.dot(away, away) * gap[1])
        self.assertEqual([nearest_left(SIX, zero_of(SIX), SLIPS), gap_left(SIX, zero_of(SIX), SLIPS)],
                         [zero_of(SIX), (10, 1)])
        self.assertEqual([nearest_right(SIX, idle_of(SIX), SLIPS), len(moves(SIX))], [SLIPS, 6])


if __name__ == "__main__":
    unittest.main()
