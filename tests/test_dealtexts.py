"""Lines of deals."""

import unittest

from calls import some_deals, text_of
from evenlater.dealing import dealt_again
from evenlater.dealtexts import deal_line, read_deal
from evenlater.errors import InvalidText
from samples import CLOCKS, POINT, SIX, SLIPS

TWO = (2, ())


class DealTexts(unittest.TestCase):
    def assert_field(self, clock, text, field):
        with self.subTest(text=text[:60]):
            for call in (lambda: read_deal(clock, text), lambda: read_deal(text=text, clock=clock)):
                with self.assertRaises(InvalidText) as caught:
                    call()
                self.assertEqual((caught.exception.line, caught.exception.field), (0, field))

    def test_lines_are_read_back(self):
        for clock in CLOCKS:
            for deal in some_deals(clock):
                self.assertEqual(deal_line(clock, deal), text_of(deal))
                self.assertEqual(read_deal(clock, text_of(deal)), deal)
        self.assertEqual(deal_line(TWO, (3, (0, -1))), "deal 3 0 -1")

    def test_a_thousand_figures(self):
        deal = (10 ** 999 + 1, (-(10 ** 999) - 7, 10 ** 999, 0, 1, -1, 5))
        self.assertEqual(read_deal(SIX, deal_line(SIX, deal)), deal)
        long = dealt_again(SIX, (10 ** 22 + 1, (10 ** 22, 1, 2, 3, 4, 5)), 40)
        self.assertEqual(read_deal(SIX, deal_line(SIX, long)), long)

    def test_the_word_deal(self):
        for text in ["", " ", "deals 1 1 1", " deal 1 1 1", "Deal 1 1 1", "deal\n 1 1 1", "1 1 1", "clock 2"]:
            self.assert_field(TWO, text, 0)

    def test_bottoms(self):
        for word in ["", "0", "-1", "-0", "01", "+1", "1\n", "x", "1.0", "--1", "-", "1_0"]:
            self.assert_field(TWO, "deal " + word, 1)
            self.assert_field(TWO, "deal " + word + " 1 1", 1)

    def test_weights(self):
        for word in ["", "-0", "00", "01", "-01", "+1", "--1", "-", "1\n", "\n1", "x", "1,"]:
            self.assert_field(TWO, "deal 1 " + word + " 1", 2)
            self.assert_field(TWO, "deal 1 1 " + word, 3)
            self.assert_field(TWO, "deal 1 1 " + word + " 1", 3)

    def test_a_last_weight_that_leaves_a_common_divisor(self):
        self.assert_field(TWO, "deal 2 4 6", 3)
        self.assert_field(TWO, "deal 2 0 0", 3)
        self.assert_field(TWO, "deal 6 3 -9", 3)
        self.assert_field(TWO, "deal 6 3 -9 x", 3)
        self.assert_field(POINT, "deal 3 0", 2)
        self.assert_field(POINT, "deal 3 6", 2)
        self.assertEqual(read_deal(TWO, "deal 6 3 -8"), (6, (3, -8)))
        self.assertEqual(read_deal(TWO, "deal 1 0 0"), (1, (0, 0)))

    def test_missing_words(self):
        self.assert_field(TWO, "deal", 1)
        self.assert_field(TWO, "deal 2", 2)
        self.assert_field(TWO, "deal 2 4", 3)
        self.assert_field(SIX, "deal 1 1 2 0 1 2", 7)

    def test_more_words(self):
        self.assert_field(TWO, "deal 1 1 1 1", 4)
        self.assert_field(TWO, "deal 1 1 1 ", 4)
        self.assert_field(TWO, "deal 1 1 1  ", 4)
        self.assert_field(SIX, deal_line(SIX, SLIPS) + " 0", 8)


if __name__ == "__main__":
    unittest.main()
