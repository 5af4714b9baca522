"""Papers of homes and periods, and papers that tell whether the powers of a plain deal come near to even."""

import unittest

from calls import BAD, BAD_PLAINS, all_triples, plain_deals
from evenlater.clockparts import part_moves
from evenlater.coming import come_after
from evenlater.dealing import dealt_again
from evenlater.dealmaking import deal_on, even_on
from evenlater.errors import InvalidPaper, NotUsable
from evenlater.homepapers import home_paper, lets_home
from evenlater.homes import home_of, period_of, reach_of, settles_after
from evenlater.nearing import comes_near
from evenlater.nearpapers import lets_near, near_paper
from evenlater.spreads import spread_of
from evenlater.weighing import moves_of
from samples import CLOCKS, FLIP, JUNK, LOOSE, POINT, SEVEN, SIX, SLIPS, back, closed, dice, moves, size, then, turned
from test_coming import TIPS, each, walked

TINY = [POINT, SIX, LOOSE, (6, ()), SEVEN, (1, ((2, 1), (3, 1)))]


class Homes(unittest.TestCase):
    def assert_invalid(self, word, at, thing, some=TIPS, clock=SIX):
        with self.assertRaises(InvalidPaper) as caught:
            lets_home(clock, some, thing)
        self.assertEqual((caught.exception.word, caught.exception.at), (word, at))
        self.assertIs(caught.exception.at.__class__, int)

    def test_papers(self):
        for clock, some in each(311, CLOCKS):
            paper = home_paper(clock, some)
            self.assertEqual(paper, ("home", settles_after(clock, some), home_of(clock, some), period_of(clock, some)))
            self.assertEqual(lets_home(clock, some, paper), paper[3])
            self.assertIs(paper.__class__, tuple)

    def own_word(self, clock, some, many, part, period):
        """The first word that applies to a paper whose elements are of the right kinds, by own walks."""
        rows = walked(clock, some, many + 1)
        if len(rows[many + 1]) > len(rows[many]):
            return "grows"
        if many > 1 and len(rows[many - 1]) == len(rows[many]):
            return "stays"
        inside = part_moves(clock, part)
        if not any({then(clock, h, g) for h in inside} == rows[many] for g in moves(clock)):
            return "coset"
        return None if period * len(inside) == len(closed(clock, some)) else "round"

    def test_papers_bent_at_each_place(self):
        places = {"grows": 1, "stays": 1, "coset": 2, "round": 3}
        told = set()
        for clock, some in each(312, TINY):
            _, many, part, period = home_paper(clock, some)
            bent = [(k, part, period) for k in range(1, min(size(clock), many + 3) + 1)]
            bent += [(many, other, period) for other in all_triples(clock)]
            bent += [(many, part, k) for k in (1, 2, 3, period + 1, period * 2)]
            bent += [(many, other, size(clock) // len(part_moves(clock, other))) for other in all_triples(clock)[:4]]
            for row in bent:
                word = self.own_word(clock, some, *row)
                told.add(word)
                if word is None:
                    self.assertEqual(row, (many, part, period))
                    self.assertEqual(lets_home(clock, some, ("home", *row)), period)
                else:
                    self.assert_invalid(word, places[word], ("home", *row), some, clock)
        self.assertEqual(told, {None, *places})

    def test_shape(self):
        for thing in [*JUNK, (), ("home",), ("home", 2, (3, 1, 0)), ("home", 2, (3, 1, 0), 2, 0), "home",
                      ["home", 2, (3, 1, 0), 2], ("Home", 2, (3, 1, 0), 2), (None, 2, (3, 1, 0), 2), (1, 2, 3, 4),
                      (("home",), 2, (3, 1, 0), 2), (2, "home", (3, 1, 0), 2), "homes"]:
            self.assert_invalid("shape", -1, thing)

    def test_the_first_element_that_is_wrong(self):
        for bad in [*BAD["integer"](), 0, -1, 7, 10 ** 59]:
            self.assert_invalid("many", 1, ("home", bad, (3, 1, 0), 2))
            self.assert_invalid("many", 1, ("home", bad, None, 0))
        for bad in BAD["part"]():
            self.assert_invalid("part", 2, ("home", 2, bad, 2))
            self.assert_invalid("part", 2, ("home", 1, bad, None))
        for bad in [*BAD["integer"](), 0, -1, -(10 ** 59)]:
            self.assert_invalid("period", 3, ("home", 2, (3, 1, 0), bad))
            self.assert_invalid("period", 3, ("home", 6, (1, 1, 0), bad))
        self.assert_invalid("round", 3, ("home", 2, (3, 1, 0), 10 ** 59))
        self.assert_invalid("grows", 1, ("home", 1, (1, 1, 0), 1))
        self.assert_invalid("stays", 1, ("home", 3, (1, 1, 0), 1))
        self.assert_invalid("stays", 1, ("home", 6, (3, 1, 0), 2))
        self.assert_invalid("coset", 2, ("home", 2, (1, 1, 0), 1))
        self.assertEqual(lets_home(thing=("home", 2, (3, 1, 0), 2), moves=TIPS, clock=SIX), 2)

    def test_as_many_moves_of_another_part(self):
        """A part as large as the home, which is kept within the reach, while this part is not."""
        clock, some = (7, ((2, 6),)), ((1, 1),)
        self.assertEqual(lets_home(clock, some, ("home", 1, (1, 1, 0), 2)), 2)
        clock, some = (5, ((2, 4), (3, 1))), ((0, 0), (0, 2), (0, 4))
        self.assertEqual(home_of(clock, some), (1, 3, 0))
        both = ((0, 0), (0, 3))
        self.assertEqual(home_of(clock, both), (1, 2, 0))
        for spot in range(1, 5):
            self.assert_invalid("coset", 2, ("home", 1, (1, 2, spot), 1), both, clock)

    def test_one_move_and_the_largest_clocks(self):
        self.assertEqual(lets_home(POINT, ((0, 0),), ("home", 1, (1, 1, 0), 1)), 1)
        self.assert_invalid("many", 1, ("home", 2, (1, 1, 0), 1), ((0, 0),), POINT)
        self.assertEqual(lets_home((59, ()), ((0, 0), (1, 0)), ("home", 58, (59, 1, 0), 1)), 1)
        self.assert_invalid("grows", 1, ("home", 57, (59, 1, 0), 1), ((0, 0), (1, 0)), (59, ()))
        self.assert_invalid("stays", 1, ("home", 59, (59, 1, 0), 1), ((0, 0), (1, 0)), (59, ()))
        self.assertEqual(lets_home((59, ()), ((1, 0),), ("home", 1, (1, 1, 0), 59)), 59)

    def test_moves_come_first(self):
        for bad in BAD["moves"]():
            with self.assertRaises(NotUsable) as caught:
                lets_home(SIX, bad, None)
            self.assertEqual((caught.exception.word, caught.exception.at), ("moves", -1))


class Near(unittest.TestCase):
    def assert_invalid(self, word, at, thing, deal=FLIP, clock=SIX):
        with self.assertRaises(InvalidPaper) as caught:
            lets_near(clock, deal, thing)
        self.assertEqual((caught.exception.word, caught.exception.at), (word, at))
        self.assertIs(caught.exception.at.__class__, at.__class__)

    def each(self, clocks=TINY):
        for clock in clocks:
            for deal in [*plain_deals(clock), *[even_on(clock, part) for part in all_triples(clock)[::2]]]:
                yield clock, deal

    def test_papers(self):
        told = set()
        for clock, deal in [*self.each(), *self.each([clock for clock in CLOCKS if size(clock) > 50])]:
            paper, known = near_paper(clock, deal), moves_of(clock, deal)
            if comes_near(clock, deal):
                self.assertEqual((paper.__class__, len(paper), paper[0]), (tuple, 2, "near"))
            else:
                self.assertEqual((paper.__class__, len(paper), paper[:2]), (tuple, 3, ("held", home_of(clock, known))))
                self.assertIn(paper[2], known)
            told.add(paper[0])
            self.assertEqual(lets_near(clock, deal, paper), paper[0])
        self.assertEqual(told, {"near", "held"})

    def test_each_number_of_deals(self):
        for clock, deal in self.each():
            rows = walked(clock, moves_of(clock, deal), 25)
            for many in range(1, 26):
                if len(rows[many]) == size(clock):
                    self.assertEqual(lets_near(clock, deal, ("near", many)), "near")
                else:
                    self.assert_invalid("lacks", 1, ("near", many), deal, clock)

    def own_word(self, clock, deal, part, move):
        inside, known = set(part_moves(clock, part)), moves_of(clock, deal)
        if len(inside) == size(clock):
            return "part", 1
        if move not in known:
            return "move", 2
        for s in known:
            if any(turned(clock, h, s) not in inside for h in inside):
                return "turned", s
            if then(clock, s, back(clock, move)) not in inside:
                return "coset", s
        return None

    def test_papers_bent_at_each_place(self):
        told = set()
        for clock, deal in self.each([SIX, LOOSE, (6, ()), (1, ((2, 1), (3, 1)))]):
            for part in all_triples(clock):
                for move in moves(clock):
                    word, thing = self.own_word(clock, deal, part, move), ("held", part, move)
                    if word is None:
                        self.assertEqual(lets_near(clock, deal, thing), "held")
                        self.assertFalse(comes_near(clock, deal))
                    else:
                        self.assert_invalid(*word, thing, deal, clock)
                    told.add(word and word[0])
        self.assertEqual(told, {None, "part", "move", "turned", "coset"})

    def test_a_held_deal_stays_spread(self):
        for clock, deal in self.each([SIX, LOOSE, (6, ())]):
            paper = near_paper(clock, deal)
            if paper[0] == "held":
                least = len(part_moves(clock, paper[1]))
                for many in (1, 2, 7):
                    top, bottom = spread_of(clock, dealt_again(clock, deal, many))
                    self.assertGreaterEqual(top * least, bottom)

    def test_shape(self):
        part = (1, 2, 0)
        for thing in [*JUNK, (), ("near",), ("near", 2, 0), ["near", 2], ("Near", 2), (2, "near"), (None, 2), (True, 2),
                      ("held", part), ("held", part, (0, 1), ()), ["held", part, (0, 1)], ("Held", part, (0, 1)),
                      ("near", part, (0, 1)), ("held",), (("held",), part, (0, 1)), "near", "held", (part, (0, 1))]:
            self.assert_invalid("shape", -1, thing)

    def test_the_first_element_that_is_wrong(self):
        for bad in [*BAD["integer"](), 0, -1, 101, 10 ** 59]:
            self.assert_invalid("many", 1, ("near", bad))
            self.assert_invalid("many", 1, ("near", bad), SLIPS)
        self.assertEqual([lets_near(SIX, SLIPS, ("near", 100)), lets_near(SIX, SLIPS, ("near", 2))], ["near", "near"])
        self.assert_invalid("lacks", 1, ("near", 1), SLIPS)
        self.assert_invalid("lacks", 1, ("near", 100), FLIP)
        for bad in [*BAD["part"](), (3, 2, 0)]:
            self.assert_invalid("part", 1, ("held", bad, (0, 1)))
            self.assert_invalid("part", 1, ("held", bad, None))
        for bad in [*BAD["move"](), (1, 0), (2, 1)]:
            self.assert_invalid("move", 2, ("held", (1, 2, 0), bad))
            self.assert_invalid("move", 2, ("held", (1, 1, 0), bad))
        self.assert_invalid("coset", (0, 1), ("held", (1, 1, 0), (0, 0)))
        self.assert_invalid("coset", (0, 0), ("held", (3, 1, 0), (0, 1)))
        self.assert_invalid("turned", (0, 1), ("held", (1, 2, 1), (0, 0)))
        self.assert_invalid("coset", (1, 0), ("held", (1, 1, 0), (0, 0)), deal_on(SIX, ((0, 0), (1, 0), (2, 1))))
        # of (1, 1) both may be said, and what it turns away is said first
        self.assert_invalid("turned", (1, 1), ("held", (1, 2, 0), (0, 0)), deal_on(SIX, ((0, 0), (0, 1), (1, 1))))
        self.assertEqual(lets_near(thing=("held", (1, 2, 0), (0, 1)), deal=FLIP, clock=SIX), "held")

    def test_one_move(self):
        for deal in [(1, (5,)), (7, (10 ** 29,))]:
            self.assertEqual([near_paper(POINT, deal)[0], lets_near(POINT, deal, ("near", 100))], ["near", "near"])
            self.assert_invalid("part", 1, ("held", (1, 1, 0), (0, 0)), deal, POINT)

    def test_deals_come_first(self):
        for bad in BAD_PLAINS:
            with self.assertRaises(NotUsable) as caught:
                lets_near(SIX, bad, None)
            self.assertEqual((caught.exception.word, caught.exception.at), ("deal", -1))

    def test_weights_do_not_matter_but_moves_do(self):
        rng = dice(313)
        for clock, deal in self.each():
            known = moves_of(clock, deal)
            other = (1, tuple(rng.randint(1, 99) if weight else 0 for weight in deal[1]))
            self.assertEqual(near_paper(clock, other)[:2], near_paper(clock, deal)[:2])
            home = part_moves(clock, home_of(clock, known))
            self.assertIs(comes_near(clock, deal), len(home) == size(clock))
            self.assertIs(len(come_after(clock, known, 60)) == size(clock), comes_near(clock, deal))
            self.assertTrue(set(known) <= set(part_moves(clock, reach_of(clock, known))))


if __name__ == "__main__":
    unittest.main()
