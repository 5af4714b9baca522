"""Lines of clocks."""

import unittest

from calls import line_of
from evenlater.clocktexts import clock_line, read_clock
from evenlater.errors import InvalidText
from samples import POINT, SEVEN, all_clocks


class ClockTexts(unittest.TestCase):
    def assert_field(self, text, field):
        with self.subTest(text=text[:60]):
            for call in (lambda: read_clock(text), lambda: read_clock(text=text)):
                with self.assertRaises(InvalidText) as caught:
                    call()
                self.assertEqual((caught.exception.line, caught.exception.field), (0, field))

    def test_lines_are_read_back(self):
        for clock in all_clocks():
            self.assertEqual(clock_line(clock), line_of(clock))
            self.assertEqual(read_clock(clock_line(clock)), clock)
        self.assertEqual([clock_line(POINT), clock_line(SEVEN)], ["clock 1", "clock 7 3 2"])

    def test_the_word_clock(self):
        for text in ["", " ", "clocks 3", "Clock 3", " clock 3", "clock\n 3", "clock\n", "3", "clo"]:
            self.assert_field(text, 0)

    def test_beats(self):
        for word in ["", "0", "03", "4", "60", "61", "-3", "+3", "three", "3\n", "\n3", "3.", "9" * 3990, "1_0"]:
            self.assert_field("clock " + word, 1)
            self.assert_field("clock " + word + " 2 2", 1)
        self.assert_field("clock  3", 1)

    def test_movers(self):
        for word in ["", "0", "1", "3", "4", "02", "-2", "2\n", "59", "61", "x", "2,", "23"]:
            self.assert_field("clock 3 " + word, 2)
            self.assert_field("clock 3 " + word + " 1", 2)
        self.assert_field("clock 3 ", 2)
        self.assert_field("clock 31 2 1", 2)
        self.assert_field("clock 1 3 1 2 1", 4)
        self.assert_field("clock 1 2 1 2 1", 4)
        self.assert_field("clock 1 2 1 3 1 11", 6)
        self.assert_field("clock 7 2 6 3 2 5 1", 6)

    def test_roots(self):
        for word in ["", "0", "3", "8", "01", "-1", "2\n", "x"]:
            self.assert_field("clock 7 3 " + word, 3)
        self.assert_field("clock 7 2 1 3 3", 5)
        self.assert_field("clock 7 3 2 ", 4)

    def test_missing_words(self):
        self.assert_field("clock", 1)
        self.assert_field("clock 3 2", 3)
        self.assert_field("clock 7 2 6 3", 5)

    def test_fields_against_all_lines(self):
        words = [clock_line(clock).split(" ") for clock in all_clocks()]
        rng_words = ["clock", "1", "2", "3", "5", "6", "7", "", "01", "11", "-1"]
        for first in ["clock 7", "clock 3", "clock 1", "clock 15", "clock"]:
            for one in rng_words:
                for other in rng_words:
                    self.compare(" ".join([first, one, other]), words)

    def compare(self, text, lines):
        told = text.split(" ")
        if told in lines:
            self.assertEqual(clock_line(read_clock(text)), text)
            return
        begins = [any(line[:k] == told[:k] for line in lines) for k in range(1, len(told) + 1)]
        self.assert_field(text, begins.index(False) if False in begins else len(told))


if __name__ == "__main__":
    unittest.main()
