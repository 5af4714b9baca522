"""The lasting and the fading side of a deal, their checker, and deals as objects that tell when they come out even."""

import unittest

from calls import BAD, BAD_DEALS, even_of, idle_of, pieces, zero_of
from evenlater.dealing import dealt, dealt_again
from evenlater.dealmaking import single_deal
from evenlater.dealsums import added, taken
from evenlater.dealtexts import deal_line
from evenlater.errors import InvalidPaper, InvalidText, NotUsable
from evenlater.evenclasses import Later, Stepped
from evenlater.evenpapers import even_paper
from evenlater.evens import even_after
from evenlater.falls import falls_at, falls_of
from evenlater.frames import frame_of
from evenlater.lasting import fades_after, fading_of, lasting_of, lets_parted
from evenlater.mirrors import mirrored
from evenlater.ones import at_piece
from evenlater.recalls import recall_of
from evenlater.signs import can_exchange
from samples import CLOCKS, FLAT, FLIP, JUNK, LOOSE, POINT, SEVEN, SIX, SLIPS, all_clocks, dice, drawn_deal, edge
from samples import moves, size
from samples import quick_rank
from test_dealclasses import Refused, Same
from test_evens import EDGES
from test_falls import mixed_deals

SOLVED = EDGES[:6]


def is_zero(deal):
    return not any(deal[1])


def products(clock, deal):
    """The rows of which all X * deal are made."""
    return tuple(dealt(clock, single_deal(clock, move, (1, 1)), deal)[1] for move in moves(clock))


def each(seed, clocks=SOLVED):
    rng = dice(seed)
    for clock in clocks:
        for deal in mixed_deals(clock, rng):
            yield clock, deal


class Sides(unittest.TestCase):
    def test_the_sentences_of_the_lasting_side(self):
        for clock, deal in each(91):
            lasting, fading = lasting_of(clock, deal), fading_of(clock, deal)
            self.assertEqual(added(clock, lasting, fading), deal)
            self.assertTrue(is_zero(dealt(clock, lasting, fading)) and is_zero(dealt(clock, fading, lasting)))
            powers = [is_zero(dealt_again(clock, fading, many)) for many in range(1, edge(clock, clock[0]) + 1)]
            self.assertTrue(powers[-1])
            self.assertEqual(fades_after(clock, deal), powers.index(True) + 1)
            square = products(clock, dealt(clock, lasting, lasting))
            self.assertEqual(quick_rank(square), quick_rank((*square, *products(clock, lasting)[:1])))
            self.assertEqual(lets_parted(clock, deal, (lasting, fading)), fades_after(clock, deal))

    def test_the_falls_of_both_sides(self):
        for clock, deal in each(92):
            rows = falls_of(clock, deal)
            lasting, fading = falls_of(clock, lasting_of(clock, deal)), falls_of(clock, fading_of(clock, deal))
            for row, left, right in zip(rows, lasting, fading):
                self.assertEqual(left, (row[0],) + (row[-1],) * (len(row) - 1))
                self.assertEqual(right, (row[0],) + tuple(rank - row[-1] for rank in row[1:]))
            first = [row.index(row[-1], 1) for row in rows]
            self.assertEqual(fades_after(clock, deal), max(first))

    def test_powers_and_what_can_be_exchanged(self):
        rng = dice(93)
        for clock, deal in each(94):
            lasting, fading = lasting_of(clock, deal), fading_of(clock, deal)
            for many in (2, 3):
                power = dealt_again(clock, deal, many)
                self.assertEqual(lasting_of(clock, power), dealt_again(clock, lasting, many))
                self.assertEqual(fading_of(clock, power), dealt_again(clock, fading, many))
            for other in [dealt_again(clock, deal, 2), drawn_deal(clock, rng), mirrored(clock, deal)]:
                if can_exchange(clock, deal, other):
                    self.assertTrue(can_exchange(clock, lasting, other) and can_exchange(clock, fading, other))
            if can_exchange(clock, deal, recall_of(clock, deal)):
                self.assertTrue(is_zero(fading))
            after = even_after(clock, deal)
            self.assertIs(after is not None, len(set(lasting[1])) == 1)
            self.assertTrue(after is None or after == fades_after(clock, deal))

    def test_edges(self):
        for clock in [clock for clock in CLOCKS if size(clock) <= 42]:
            for deal in [zero_of(clock), idle_of(clock), even_of(clock), even_of(clock, -7)]:
                self.assertEqual([lasting_of(clock, deal), fading_of(clock, deal), fades_after(clock, deal)],
                                 [deal, zero_of(clock), 1])

    def test_forty_two_moves(self):
        rng = dice(95)
        for clock in [(7, ((2, 6), (3, 2))), (21, ((2, 20),)), (7, ((2, 1), (3, 4))), (42, ())]:
            some = mixed_deals(clock, rng)[:4] + [drawn_deal(clock, rng, 99)]
            for deal in some:
                if max(map(abs, (deal[0], *deal[1]))) < 100:
                    pair = lasting_of(clock, deal), fading_of(clock, deal)
                    self.assertEqual(lets_parted(clock, deal, pair), fades_after(clock, deal))


class Papers(unittest.TestCase):
    def assert_invalid(self, word, thing, deal=SLIPS, clock=SIX):
        with self.assertRaises(InvalidPaper) as caught:
            lets_parted(clock, deal, thing)
        self.assertEqual((caught.exception.word, caught.exception.at), (word, -1))

    def test_shape(self):
        zero, pair = zero_of(SIX), (lasting_of(SIX, SLIPS), fading_of(SIX, SLIPS))
        for thing in [*JUNK, (), (SLIPS,), (SLIPS, zero, zero), [*pair], (pair[0], None), (None, pair[1]), SLIPS,
                      (pair[0], [1, pair[1][1]]), (pair[0], (2, (0,) * 6)), (pair[0], pair[1][1])]:
            self.assert_invalid("shape", thing)

    def test_the_first_word_that_applies(self):
        zero, idle = zero_of(SIX), idle_of(SIX)
        self.assert_invalid("sum", (idle, idle))
        self.assert_invalid("sum", (SLIPS, SLIPS))
        self.assert_invalid("lasts", (SLIPS, zero))
        self.assert_invalid("fades", (zero, SLIPS))
        frame = frame_of(SEVEN, (7, 1))
        none = zero_of(SEVEN)
        for lasting, fading, word in [(frame[0][0], frame[0][1], "right"), (frame[0][0], frame[1][0], "left"),
                                      (frame[0][0], frame[1][1], "fades"), (frame[0][1], none, "lasts"),
                                      (frame[0][1], frame[2][2], "fades"), (none, frame[0][0], "fades")]:
            self.assert_invalid(word, (lasting, fading), added(SEVEN, lasting, fading), SEVEN)
            self.assert_invalid("sum", (lasting, fading), SLIPS_OF_SEVEN, SEVEN)
        both = added(SEVEN, frame[0][1], frame[1][2])
        self.assertEqual(lets_parted(SEVEN, both, (none, both)), 3)
        self.assertEqual(lets_parted(SEVEN, added(SEVEN, both, even_of(SEVEN)), (even_of(SEVEN), both)), 3)
        self.assertEqual(lets_parted(clock=SEVEN, deal=frame[0][1], thing=(none, frame[0][1])), 2)

    def test_only_the_sides_are_let(self):
        for clock, deal in each(96, [SIX, SEVEN, LOOSE]):
            lasting, fading = lasting_of(clock, deal), fading_of(clock, deal)
            for piece in pieces(clock):
                for away in (at_piece(clock, piece, lasting), at_piece(clock, piece, fading)):
                    if not is_zero(away):
                        with self.assertRaises(InvalidPaper):
                            lets_parted(clock, deal, (taken(clock, lasting, away), added(clock, fading, away)))

    def test_deals_come_first(self):
        for deal in BAD_DEALS:
            with self.assertRaises(NotUsable) as caught:
                lets_parted(SIX, deal, None)
            self.assertEqual((caught.exception.word, caught.exception.at), ("deal", -1))


SLIPS_OF_SEVEN = (1, tuple(k % 4 for k in range(21)))


class Own(Stepped):
    pass


class Laters(Refused):
    def each(self):
        for clock, deal in each(97, [SIX, SEVEN, LOOSE, POINT, FLAT]):
            yield clock, deal, Later(clock, deal)

    def is_later(self, one, clock, deal):
        self.assertIs(one.__class__, Later)
        self.assertEqual((one.its_clock, one.its_deal), (clock, deal))

    def test_what_it_tells(self):
        for clock, deal, one in self.each():
            self.is_later(one, clock, deal)
            after = even_after(clock, deal)
            self.assertEqual((one.its_after, one.falls(), one.paper()),
                             (after, falls_of(clock, deal), even_paper(clock, deal)))
            for piece in pieces(clock):
                self.assertEqual((one.fall(piece), one.fall(piece=piece)), (falls_at(clock, piece, deal),) * 2)
            self.assertEqual(len(one), edge(clock, clock[0]))
            self.assertEqual(str(one), "later never" if after is None else f"later {after}")
            lasting, fading = one.parted()
            self.assertIs(one.parted().__class__, tuple)
            self.is_later(lasting, clock, lasting_of(clock, deal))
            self.is_later(fading, clock, fading_of(clock, deal))
            self.is_later(one.again(3), clock, dealt_again(clock, deal, 3))
            self.is_later(one.again(many=0), clock, idle_of(clock))
            other = Later(clock, mirrored(clock, deal))
            self.is_later(one.dealt(other), clock, dealt(clock, deal, other.its_deal))
            self.is_later(one.dealt(other=Own(clock, (1, 1), (1, 1))), clock, dealt(clock, deal, even_of(clock)))
        self.is_later(Later(deal=SLIPS, clock=SIX), SIX, SLIPS)

    def test_numbers_in_it(self):
        for clock, deal, one in self.each():
            after = even_after(clock, deal)
            for many in range(6):
                self.assertIs(many in one, len(set(dealt_again(clock, deal, many)[1])) == 1)
            self.assertEqual([10 ** 59 in one, 40 in one], [after is not None] * 2)
            for thing in [*JUNK[:-6], True, False, -1, -(10 ** 59), None, "2", (2,), [2], one, Same()]:
                self.assertIs(thing in one, False)
        self.assertEqual([0 in Later(POINT, (1, (3,))), 0 in Later(SIX, even_of(SIX)), 1 in Later(SIX, even_of(SIX))],
                         [True, False, True])
        self.assertEqual([True in Later(SIX, even_of(SIX)), False in Later(POINT, (1, (3,)))], [False, False])

    def test_equal(self):
        falls = (2, 1, 1)
        stepped = Stepped(SIX, (3, 1), falls)
        one = Later(SIX, stepped.its_deal)
        self.assertTrue(one == stepped and stepped == one and one == Own(SIX, (3, 1), falls))
        self.assertFalse(one != stepped)
        for thing in [Later(SIX, SLIPS), Later(LOOSE, one.its_deal), Later(FLAT, one.its_deal), one.its_deal, None, 1,
                      "later 2", [], Same.__name__]:
            self.assertIs(one == thing, False)
            self.assertIs(one != thing, True)

    def test_refused(self):
        for bad in [*BAD_DEALS, Later(SIX, SLIPS)]:
            self.assert_refused("deal", Later, SIX, bad)
            self.assert_refused("deal", Later, clock=SIX, deal=bad)
        one = Later(SIX, SLIPS)
        for kind, name, method in [("piece", "piece", one.fall), ("number", "many", one.again)]:
            for bad in BAD[kind]():
                self.assert_refused(name, method, bad)
                self.assert_refused(name, method, **{name: bad})
        for other in [*JUNK, SLIPS, Later(LOOSE, SLIPS), Later(FLAT, SLIPS), Same()]:
            self.assert_refused("other", one.dealt, other)
            self.assert_refused("other", one.dealt, other=other)
        for bad in BAD["later"]():
            self.assert_refused("many", Later.from_many, SIX, bad)
        for bad in BAD["deal_text"]():
            self.assert_refused("text", Later.read, SIX, bad)

    def test_from_many_and_read(self):
        for clock in all_clocks()[::5]:
            for many in range(1, edge(clock, clock[0]) + 1):
                one = Later.from_many(clock, many)
                self.assertEqual((one.__class__, one.its_clock, one.its_after), (Later, clock, many))
        self.assertEqual(Later.from_many(many=2, clock=SIX).its_after, 2)
        for clock, deal, one in self.each():
            self.is_later(Later.read(clock, deal_line(clock, deal)), clock, deal)
        with self.assertRaises(InvalidText) as caught:
            Later.read(clock=SIX, text="deal 1 1 2 0 1 2 x")
        self.assertEqual((caught.exception.line, caught.exception.field), (0, 7))

    def test_stepped(self):
        for clock in EDGES[:5]:
            for piece in pieces(clock):
                e = edge(clock, piece[0])
                for falls in [(e,) * (e + 1), tuple(range(e, -1, -1))]:
                    one = Stepped(clock, piece, falls)
                    self.assertIsInstance(one, Later)
                    self.assertEqual((one.its_clock, one.its_piece, one.its_falls), (clock, piece, falls))
                    self.assertEqual(one.fall(piece), falls)
                    self.assertEqual({row[1:] for other, row in zip(pieces(clock), one.falls()) if other != piece},
                                     {(0,) * edge(clock, a) for a, b in pieces(clock) if (a, b) != piece})
        self.assertEqual(Stepped(falls=(2, 1, 0), piece=(3, 1), clock=SIX).its_after, 2)
        for bad in BAD["piece"]():
            self.assert_refused("piece", Stepped, SIX, bad, None)
        for bad in BAD["falls_of_two"]():
            self.assert_refused("falls", Stepped, SIX, (3, 1), bad)
            self.assert_refused("falls", Stepped, clock=SIX, piece=(3, 1), falls=bad)

    def test_derived_classes_give_laters(self):
        one = Own(SIX, (3, 1), (2, 1, 1))
        results = [one.again(2), one.dealt(one), *one.parted(), Own.from_many(SIX, 2), Own.read(SIX, "deal 1 1 2 0 1 2 0")]
        self.assertEqual({result.__class__ for result in results}, {Later})

    def test_a_later_stays_as_it_is(self):
        one = Later(SIX, SLIPS)
        before = (one.its_clock, one.its_deal, one.its_after, one.falls(), str(one), len(one))
        one.again(4), one.dealt(Later(SIX, FLIP)), one.parted(), 3 in one, one == Later(SIX, FLIP), one.paper()
        self.assert_refused("other", one.dealt, None)
        self.assertEqual((one.its_clock, one.its_deal, one.its_after, one.falls(), str(one), len(one)), before)


if __name__ == "__main__":
    unittest.main()
