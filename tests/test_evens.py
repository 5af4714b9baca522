"""After how many deals a deal comes out even: numbers, papers, classes, rows, and what such deals have in common."""

import unittest
from fractions import Fraction

from calls import BAD_DEALS, even_of, idle_of, pieces, some_deals, zero_of
from evenlater.classwise import even_in_classes, first_uneven
from evenlater.dealfolds import folded_deal
from evenlater.dealing import dealt, dealt_again, dealt_row
from evenlater.dealmaking import even_on
from evenlater.dealsums import added, scaled
from evenlater.errors import InvalidPaper, NotUsable
from evenlater.evenpapers import even_paper, lets_even
from evenlater.evens import even_after, is_even_by
from evenlater.evensets import divides_total, folds_evenly
from evenlater.frames import frame_of
from evenlater.laters import later_deal
from evenlater.mirrors import mirrored, turned_deal
from evenlater.ones import at_piece
from evenlater.signs import can_exchange
from evenlater.turnabout import both_ways, row_after
from evenlater.weighing import total_of
from samples import CLOCKS, FLAT, FLIP, JUNK, LOOSE, POINT, PRIMES, SEVEN, SIX, SLIPS, SMALL_CLOCKS, all_clocks, deal_for
from samples import dice, drawn_deal, drawn_move, edge, fractions, moves, plain_dealt, size, turned

# clocks of the edges 1, 2, 3, 5 and 6
EDGES = [POINT, SIX, LOOSE, (15, ((2, 14),)), SEVEN, (7, ((2, 1), (3, 4))), (11, ((5, 3),)), (7, ((2, 6), (3, 2)))]


def last(clock):
    return edge(clock, clock[0])


def is_plain_even(deal):
    return len(set(deal[1])) == 1


def plain_after(clock, deal):
    """even_after, from own powers up to twice the edge."""
    power = deal
    for many in range(1, 2 * last(clock) + 1):
        if is_plain_even(power):
            return many
        power = plain_dealt(clock, power, deal)
    return None


def fading_deals(clock, rng):
    """Deals that come out even, of all numbers, some with more added that is even, turned and multiplied."""
    found = [even_of(clock), even_of(clock, -3), zero_of(clock)]
    for piece in [piece for piece in pieces(clock) if piece != (1, 1)]:
        frame, e = frame_of(clock, piece), edge(clock, piece[0])
        for i in range(e - 1):
            found.append(added(clock, even_of(clock, rng.randint(-2, 2)), frame[i][i + 1]))
            row = zero_of(clock)
            for k in range(i + 1):
                row = added(clock, row, scaled(clock, frame[k][k + 1], (rng.choice((1, -2, 3)), 1)))
            found.append(turned_deal(clock, added(clock, row, even_of(clock)), drawn_move(clock, rng)))
    return found


def other_deals(clock, rng):
    return [drawn_deal(clock, rng, 2), idle_of(clock), (1, tuple(rng.randint(0, 1) for _ in range(size(clock))))]


def drawn(seed, clocks=EDGES):
    rng = dice(seed)
    for clock in clocks:
        for deal in fading_deals(clock, rng)[:14] + other_deals(clock, rng):
            yield clock, deal


class Evens(unittest.TestCase):
    def test_own_powers(self):
        told = set()
        for clock, deal in drawn(61, EDGES[:6]):
            after = plain_after(clock, deal)
            self.assertEqual(even_after(clock, deal), after)
            told.add((last(clock), after))
        self.assertEqual(told, {(e, k) for e in (1, 2, 3) for k in (None, *range(1, e + 1))})

    def test_every_number_up_to_the_edge(self):
        for clock in all_clocks():
            told = [even_after(clock, later_deal(clock, many)) for many in range(1, last(clock) + 1)]
            self.assertEqual(told, list(range(1, last(clock) + 1)))

    def test_is_even_by(self):
        for clock, deal in drawn(62):
            after = even_after(clock, deal)
            for many in (1, last(clock), last(clock) + 1):
                self.assertIs(is_even_by(clock, deal, many), after is not None and after <= many)
            self.assertIs(is_even_by(clock, deal, 0), size(clock) == 1)
            small = (1, tuple(min(1, abs(weight)) for weight in deal[1]))
            self.assertIs(is_even_by(clock, small, 40), even_after(clock, small) is not None)
        self.assertEqual([is_even_by(SIX, SLIPS, many=1), is_even_by(clock=POINT, deal=(1, (0,)), many=0)],
                         [False, True])

    def test_one_move(self):
        for deal in [(1, (0,)), (3, (-2,)), (1, (10 ** 29,))]:
            self.assertEqual([even_after(POINT, deal), even_paper(POINT, deal), first_uneven(POINT, deal)],
                             [1, ("even", 1, ()), None])

    def test_long_weights(self):
        deal = (10 ** 29 + 1, (0, 10 ** 29, -(10 ** 29), 0, 10 ** 29, -(10 ** 29)))
        self.assertEqual([even_after(SIX, deal), even_after(SIX, dealt_again(SIX, deal, 2))], [2, 1])
        longer = dealt_again(SIX, (10 ** 22 + 1, (10 ** 22, 1, -2, 3, 4, 5)), 40)
        self.assertEqual([even_after(SIX, longer), first_uneven(SIX, longer)], [None, 1])
        flat = dealt(SIX, longer, even_of(SIX))
        self.assertEqual([even_after(SIX, flat), row_after(SIX, (longer, flat, longer))], [1, 2])

    def test_largest_clocks(self):
        for clock in [(59, ()), (1, ((59, 1),)), (29, ((2, 28),)), (19, ((3, 7),)), (11, ((5, 9),))]:
            self.assertEqual(even_after(clock, even_of(clock)), 1)
            self.assertIsNone(even_after(clock, idle_of(clock)))
            self.assertEqual(lets_even(clock, idle_of(clock), even_paper(clock, idle_of(clock))), None)

    def test_mirrors_turned_deals_and_sums_with_even_ones(self):
        rng = dice(63)
        for clock, deal in drawn(64):
            after = even_after(clock, deal)
            others = [mirrored(clock, deal), turned_deal(clock, deal, drawn_move(clock, rng)),
                      scaled(clock, deal, (-5, 3)), added(clock, deal, even_of(clock, rng.randint(-4, 4)))]
            self.assertEqual([even_after(clock, other) for other in others], [after] * 4)
            if can_exchange(clock, deal, mirrored(clock, deal)):
                self.assertIn(after, (1, None))


class Laters(unittest.TestCase):
    def test_plain_with_bottom_1(self):
        for clock in all_clocks():
            for many in range(1, last(clock) + 1):
                bottom, weights = later_deal(clock, many)
                self.assertEqual((bottom, len(weights)), (1, size(clock)))
                self.assertTrue(min(weights) >= 0 and max(weights) > 0)

    def test_refused(self):
        for clock, many in [(SIX, 0), (SIX, 3), (SIX, True), (SIX, None), (POINT, 2), (FLAT, 2), (LOOSE, 2), (SEVEN, 4)]:
            with self.assertRaises(NotUsable) as caught:
                later_deal(clock, many)
            self.assertEqual((caught.exception.word, caught.exception.at), ("many", -1))


class Papers(unittest.TestCase):
    def assert_invalid(self, word, thing, deal=SLIPS, clock=SIX):
        with self.assertRaises(InvalidPaper) as caught:
            lets_even(clock, deal, thing)
        self.assertEqual((caught.exception.word, caught.exception.at), (word, -1))

    def test_papers(self):
        for clock, deal in drawn(65):
            after, paper = even_after(clock, deal), even_paper(clock, deal)
            self.assertEqual(lets_even(clock, deal, paper), after)
            if after is None:
                self.assertEqual((len(paper), paper[0]), (2, "never"))
                self.assert_unlike(clock, dealt_again(clock, deal, last(clock)), paper[1])
            else:
                self.assertEqual((len(paper), paper[:2]), (3, ("even", after)))
                if after == 1:
                    self.assertEqual(paper[2], ())
                else:
                    self.assert_unlike(clock, dealt_again(clock, deal, after - 1), paper[2])

    def assert_unlike(self, clock, deal, pair):
        one, other = (moves(clock).index(move) for move in pair)
        self.assertLess(one, other)
        self.assertNotEqual(deal[1][one], deal[1][other])

    def test_every_pair_of_moves(self):
        every = moves(SIX)
        for deal, head in [(SLIPS, ("even", 2)), (FLIP, ("never",)), (SLIPS, ("never",))]:
            power = deal if deal == SLIPS and head[0] == "even" else dealt_again(SIX, deal, 2)
            for i, one in enumerate(every):
                for j, other in enumerate(every):
                    paper = (*head, (one, other))
                    if i >= j:
                        self.assert_invalid("pair", paper, deal)
                    elif power[1][i] == power[1][j]:
                        self.assert_invalid("alike", paper, deal)
                    else:
                        self.assertEqual(lets_even(SIX, deal, paper), 2 if deal == SLIPS else None)

    def test_shape(self):
        pair = ((0, 0), (1, 0))
        for thing in [*JUNK, (), ("even",), ("even", 2), ("never",), ("never", pair, ()), ("even", 2, pair, ()),
                      ["even", 2, pair], ("Even", 2, pair), (True, 2, pair), ("never", 2, pair), (("even",), 2, pair),
                      ["never", pair], "even", ("even", pair)]:
            self.assert_invalid("shape", thing)

    def test_many(self):
        pair = ((0, 0), (1, 0))
        for many in [0, 3, -1, True, None, "2", (2,), [2], 10 ** 59]:
            self.assert_invalid("many", ("even", many, pair))
            self.assert_invalid("many", ("even", many, None))
        self.assert_invalid("many", ("even", 2, pair), even_of(LOOSE), LOOSE)

    def test_pairs(self):
        bad = [None, (), ((0, 0),), ((0, 0), (0, 0)), ((1, 0), (0, 0)), ((0, 0), (3, 0)), [(0, 0), (1, 0)],
               ((0, 0), (1, 0), (2, 0)), ((0, 0), [1, 0]), ((0, 0), (True, 0)), ((0, 1), (2, 0)), 0, "", True]
        for pair in bad:
            self.assert_invalid("pair", ("even", 2, pair))
            self.assert_invalid("pair", ("never", pair), FLIP)
        for pair in [None, ((0, 0), (1, 0)), [], 0, "", (0,), False]:
            self.assert_invalid("pair", ("even", 1, pair), even_of(SIX))
            self.assert_invalid("pair", ("even", 1, pair), SLIPS)

    def test_uneven(self):
        self.assert_invalid("uneven", ("even", 1, ()), SLIPS)
        self.assert_invalid("uneven", ("even", 2, ((0, 0), (1, 0))), FLIP)
        late = later_deal(SEVEN, 3)
        pair = even_paper(SEVEN, late)[2]
        self.assertEqual(lets_even(SEVEN, late, ("even", 3, pair)), 3)
        unlike = next(k for k in range(1, 21) if late[1][k] != late[1][0])
        self.assert_invalid("uneven", ("even", 2, ((0, 0), moves(SEVEN)[unlike])), late, SEVEN)

    def test_alike(self):
        self.assert_invalid("alike", ("even", 2, ((0, 0), (1, 0))), even_of(SIX))
        self.assert_invalid("alike", ("never", ((0, 0), (1, 0))), SLIPS)
        self.assert_invalid("alike", ("even", 2, ((0, 0), (0, 1))), FLIP)

    def test_deals_come_first(self):
        for deal in BAD_DEALS:
            with self.assertRaises(NotUsable) as caught:
                lets_even(SIX, deal, None)
            self.assertEqual((caught.exception.word, caught.exception.at), ("deal", -1))
        self.assertEqual(lets_even(clock=SIX, deal=FLIP, thing=("never", ((0, 0), (1, 0)))), None)


def plain_even_in_classes(clock, deal):
    weights = dict(zip(moves(clock), fractions(deal)))
    classes = {tuple(sorted({turned(clock, move, by) for by in moves(clock)})) for move in moves(clock)}
    share = sum(weights.values()) / size(clock)
    return all(sum(weights[move] for move in some) == share * len(some) for some in classes)


class Classwise(unittest.TestCase):
    def test_powers(self):
        for clock, deal in drawn(66, EDGES[:5]):
            plain = [plain_even_in_classes(clock, dealt_again(clock, deal, many)) for many in range(5)]
            self.assertEqual([even_in_classes(clock, deal, many) for many in range(5)], plain)
            first = [many for many in range(1, last(clock) + 1) if not plain[many]]
            self.assertEqual(first_uneven(clock, deal), first[0] if first else None)

    def test_a_deal_comes_out_even_exactly_if_its_classes_do(self):
        for clock, deal in drawn(67):
            self.assertIs(first_uneven(clock, deal) is None, even_after(clock, deal) is not None)

    def test_zero_and_forty(self):
        self.assertEqual([even_in_classes(SIX, SLIPS, many) for many in (0, 2, 40)], [False, True, True])
        self.assertEqual([even_in_classes(SIX, FLIP, 40), even_in_classes(POINT, (1, (2,)), 0)], [False, True])


class Turnabout(unittest.TestCase):
    def test_both_ways(self):
        rng, told = dice(68), set()
        for clock in EDGES:
            some = fading_deals(clock, rng)[:12] + other_deals(clock, rng) + [even_on(clock, (clock[0], 1, 0))]
            for one, other in [(rng.choice(some), rng.choice(some)) for _ in range(20)]:
                left, right = both_ways(clock, one, other)
                self.assertEqual((left, right), (even_after(clock, dealt(clock, one, other)),
                                                 even_after(clock, dealt(clock, other, one))))
                self.assertIs(left is None, right is None)
                self.assertTrue(left is None or abs(left - right) <= 1)
                told.add(left is not None and left != right)
        self.assertEqual(told, {True, False})

    def test_rows(self):
        rng = dice(69)
        for clock in EDGES:
            some = fading_deals(clock, rng)[:12] + other_deals(clock, rng)
            for many in range(6):
                deals = tuple(rng.choice(some) for _ in range(many))
                even = [k for k in range(1, many + 1) if is_plain_even(dealt_row(clock, deals[:k]))]
                self.assertEqual(row_after(clock, deals), even[0] if even else None)
        self.assertEqual([row_after(SIX, (SLIPS,)), row_after(SIX, (even_of(SIX),)), row_after(POINT, ())],
                         [None, 1, None])
        self.assertEqual([row_after(POINT, ((1, (3,)),)), row_after(SIX, (FLIP,) * 39 + (SLIPS,))], [1, None])
        self.assertEqual(row_after(SIX, (idle_of(SIX),) * 38 + (SLIPS,) * 2), 40)


class InCommon(unittest.TestCase):
    def test_folds(self):
        for clock, deal in drawn(70):
            moved = [q for q in PRIMES if clock[0] % q == 0 and edge(clock, q) > 1]
            whole = 1
            for prime in moved:
                whole *= prime
            plain = is_plain_even(folded_deal(clock, (whole, 1, 0), deal))
            self.assertIs(folds_evenly(clock, deal), plain)
            if even_after(clock, deal) is not None:
                self.assertIs(plain, True)
        for clock, deal in [(LOOSE, (1, (2, 2, 2, 2, 2, 2))), (LOOSE, (1, (1, 2, 3, 1, 2, 3))), (FLAT, (1, (1,) * 6))]:
            self.assertIs(folds_evenly(clock, deal), is_plain_even(deal))
        self.assertEqual([folds_evenly(POINT, (1, (7,))), folds_evenly(SIX, (1, (0, 3, 1, 2, 2, 0)))], [True, True])
        self.assertEqual([folds_evenly((15, ((2, 4),)), deal_for([Fraction(x % 5) for x in range(15)] * 2)),
                          folds_evenly((15, ((2, 4),)), deal_for([Fraction(x % 3) for x in range(15)] * 2))],
                         [True, False])

    def test_totals(self):
        for clock in CLOCKS:
            for deal in [(1, weights) for _, weights in some_deals(clock)]:
                self.assertIs(divides_total(clock, deal), sum(deal[1]) % size(clock) == 0)
        for clock, deal in drawn(71):
            if deal[0] == 1 and even_after(clock, deal) is not None:
                self.assertIs(divides_total(clock, deal), True)
                self.assertEqual(total_of(clock, deal)[0] % size(clock), 0)
        for deal in [(2, (1,) * 6), (6, (1, 1, 1, -1, -1, -1)), *BAD_DEALS]:
            with self.assertRaises(NotUsable) as caught:
                divides_total(SIX, deal)
            self.assertEqual((caught.exception.word, caught.exception.at), ("deal", -1))

    def test_at_each_piece_but_the_first_it_fades(self):
        for clock, deal in drawn(72, EDGES[:6]):
            power = dealt_again(clock, deal, last(clock))
            rest = [at_piece(clock, piece, power) for piece in pieces(clock) if piece != (1, 1)]
            self.assertIs(all(part == zero_of(clock) for part in rest), even_after(clock, deal) is not None)


if __name__ == "__main__":
    unittest.main()
