"""A desk that is told rows and answers them."""

import unittest

from calls import JUNK, line_of, line_of_event, some_events, text_of
from evenlater.desk import Desk
from evenlater.errors import InvalidEvent, InvalidRow, LaterError, NothingToUndo
from evenlater.live import LiveDeal
from samples import CLOCKS, POINT, SEVEN, SIX, SLIPS, dice, size
from test_live import TINY, drawn_event, is_long

LINE = "right deal 1 1 2 0 1 2 0"
ASKING = ("clock", "deal", "ranks", "after", "even", "many", "tally", "log")


def told(value):
    return "-" if value is None or value == "" else str(value)


def answers(live):
    """What a desk answers to the rows that ask, one for each."""
    deal = live.deal_now()
    return [line_of(live.clock_now()), text_of(deal), " ".join(map(str, live.ranks_now())), told(live.after_now()),
            "yes" if len(set(deal[1])) == 1 else "no", str(len(live)), " ".join(map(str, live.tally())),
            told(" / ".join(map(line_of_event, live.log()[1:])))]


class Desks(unittest.TestCase):
    def assert_raises(self, error, fields, desk, row):
        returned, raised = desk.counts()
        with self.assertRaises(LaterError) as caught:
            desk.say(row)
        self.assertIs(caught.exception.__class__, error)
        self.assertEqual(repr(vars(caught.exception)), repr(fields))
        self.assertEqual(desk.counts(), (returned, raised + 1))

    def assert_no_row(self, desk, row):
        self.assert_raises(InvalidRow, {"row": row}, desk, row)

    def test_no_live_deal(self):
        desk = Desk()
        self.assertEqual(desk.counts(), (0, 0))
        rows = [*ASKING, LINE, "undo", "mirror", "bars mirror", "tries mirror", "", " ", "begin", "begin clock",
                "begin clock 4", "clock 6", None, 0, "begin  clock 6", "begin clock 6 ", "Begin clock 6", ["begin clock 6"]]
        for row in rows:
            self.assert_no_row(desk, row)
        self.assertEqual((desk.say("begin clock 6"), desk.counts()), ("ok", (1, len(rows))))

    def test_a_live_deal_beside_it(self):
        rng = dice(391)
        for clock in TINY:
            desk, live = Desk(), LiveDeal(clock)
            self.assertEqual(desk.say(row="begin " + line_of(clock)), "ok")
            returned = 1
            for _ in range(25):
                event = drawn_event(live.clock_now(), rng)
                line, reason = line_of_event(event), live.barred(event)
                self.assertEqual(desk.say("bars " + line), told(reason))
                returned += 1
                if reason is None:
                    self.assertEqual(desk.say("tries " + line), text_of(live.tried(event)[1]))
                    live.go(event)
                    self.assertEqual(desk.say(line), str(len(live)))
                    returned += 2
                if rng.random() < 0.2 and len(live):
                    self.assertEqual(desk.say("undo"), line_of_event(live.undo()[0]))
                    returned += 1
                self.assertEqual([desk.say(row) for row in ASKING], answers(live))
                returned += len(ASKING)
            self.assertEqual(desk.counts(), (returned, 0))

    def test_each_event(self):
        for clock in CLOCKS:
            desk = Desk()
            for event in some_events(clock):
                desk.say("begin " + line_of(clock))
                live, line = LiveDeal(clock), line_of_event(event)
                if live.barred(event) is not None:
                    continue
                live.go(event)
                self.assertEqual(desk.say("tries " + line), text_of(live.deal_now()))
                self.assertEqual([desk.say(line), desk.say("clock"), desk.say("log")], ["1", line_of(live.clock_now()), line])
                self.assertEqual([desk.say("undo"), desk.say("clock"), desk.say("log"), desk.say("tally")],
                                 [line, line_of(clock), "-", "1 0 1"])

    def test_a_new_begin(self):
        desk = Desk()
        desk.say("begin clock 3 2 2")
        desk.say(LINE)
        self.assert_no_row(desk, "begin clock 3 2 3")
        self.assertEqual([desk.say("many"), desk.say("begin clock 7 3 2"), desk.say("many"), desk.say("clock")],
                         ["1", "ok", "0", "clock 7 3 2"])
        self.assertEqual([desk.say("tally"), desk.say("log"), desk.say("deal")],
                         ["0 0 0", "-", "deal 1 1" + " 0" * 20])
        self.assert_no_row(desk, LINE)

    def test_none_and_empty_answers(self):
        desk = Desk()
        desk.say("begin clock 3 2 2")
        self.assertEqual([desk.say(row) for row in ASKING],
                         ["clock 3 2 2", "deal 1 1 0 0 0 0 0", "1 1 2", "-", "no", "0", "0 0 0", "-"])
        desk.say(LINE)
        self.assertEqual([desk.say(row) for row in ASKING],
                         ["clock 3 2 2", "deal 1 1 2 0 1 2 0", "1 0 1", "2", "no", "1", "1 0 0", LINE])
        desk.say("again 2")
        self.assertEqual([desk.say(row) for row in ASKING],
                         ["clock 3 2 2", "deal 1 6 6 6 6 6 6", "1 0 0", "1", "yes", "2", "2 0 0", LINE + " / again 2"])
        desk.say("begin clock 1")
        self.assertEqual([desk.say(row) for row in ASKING], ["clock 1", "deal 1 1", "1", "1", "yes", "0", "0 0 0", "-"])

    def test_no_rows(self):
        desk = Desk()
        desk.say("begin clock 3 2 2")
        desk.say(LINE)
        before = [desk.say(row) for row in ASKING]
        rows = [*JUNK, Desk(), (LINE,), "", " ", "Clock", "clock ", " clock", "clock 3 2 2", "deal 1 1 2 0 1 2 0", "deals",
                "ranks 1", "even?", "undo 1", "undo ", "Undo", "bars", "bars ", "bars  mirror", "bars undo", "bars clock",
                "tries", "tries ", "tries undo", "tries begin clock 6", "bars bars mirror", "tries bars mirror", "mirror ",
                "mirror\n", "again 7", "again 0", "turn 1", "turn 3 0", "scale 2 4", "scale 1", "fold 1 2 0", LINE + " 0",
                "right deal 1 1 2 0 1 2", "left 1 1 2 0 1 2 0", "bars turn 3 0", "tries scale 2 4", "begin", "begin ",
                "begin clock", "begin clock 3 2", "begin  clock 6", "scale 1" + "0" * 60 + " 1", "log ", "log 1", "counts"]
        for row in rows:
            self.assert_no_row(desk, row)
        self.assertEqual([desk.say(row) for row in ASKING], before)
        self.assertEqual(desk.counts(), (2 + 2 * len(ASKING), len(rows)))

    def test_errors_of_the_live_deal(self):
        desk = Desk()
        desk.say("begin clock 3 2 2")
        self.assert_raises(NothingToUndo, {"steps": 1}, desk, "undo")
        desk.say("scale " + "9" * 60 + " 1")
        twice = {"event": ("scale", (2, 1)), "reason": "figures"}
        self.assertEqual(desk.say("bars scale 2 1"), "figures")
        self.assert_raises(InvalidEvent, twice, desk, "tries scale 2 1")
        self.assertEqual(desk.say("tally"), "1 0 0")
        self.assert_raises(InvalidEvent, twice, desk, "scale 2 1")
        self.assertEqual([desk.say("tally"), desk.say("many")], ["1 1 0", "1"])
        for k in range(39):
            self.assertEqual(desk.say("mirror"), str(k + 2))
        self.assertEqual(desk.say("bars mirror"), "many")
        many = {"event": ("mirror",), "reason": "many"}
        self.assert_raises(InvalidEvent, many, desk, "mirror")
        self.assert_raises(InvalidEvent, many, desk, "tries mirror")
        self.assertEqual([desk.say("tally"), desk.say("undo"), desk.say("tally"), desk.say("bars mirror")],
                         ["40 2 0", "mirror", "40 2 1", "-"])
        self.assertEqual(desk.say("log").count(" / "), 38)

    def test_undo_of_folds(self):
        desk = Desk()
        for row in ["begin clock 6 5 1", "fold 3 5 0", "right deal 1 1 2", "fold 2 1 0"]:
            desk.say(row)
        self.assertEqual(desk.say("log"), "fold 3 5 0 / right deal 1 1 2 / fold 2 1 0")
        self.assertEqual([desk.say("undo"), desk.say("clock"), desk.say("undo"), desk.say("clock"), desk.say("undo"),
                          desk.say("clock"), desk.say("tally")],
                         ["fold 2 1 0", "clock 2", "right deal 1 1 2", "clock 2", "fold 3 5 0", "clock 6 5 1", "3 0 3"])

    def test_long_answers(self):
        clock, most = (42, ()), 10 ** 60 - 1
        desk = Desk()
        desk.say("begin clock 42")
        deal = (most, tuple((-1) ** k * (most - 2 - k) for k in range(42)))
        self.assertFalse(is_long(deal))
        desk.say("scale 0 1")
        self.assertEqual(desk.say("add " + text_of(deal)), "2")
        self.assertEqual([desk.say("deal"), desk.say("log")], [text_of(deal), "scale 0 1 / add " + text_of(deal)])
        self.assertEqual(size(clock), 42)

    def test_two_desks(self):
        one, two = Desk(), Desk()
        one.say("begin clock 3 2 2")
        self.assert_no_row(two, "clock")
        two.say("begin clock 1")
        one.say(LINE)
        self.assertEqual([one.say("deal"), two.say("deal"), one.counts(), two.counts()],
                         [text_of(SLIPS), "deal 1 1", (3, 0), (2, 1)])
        self.assertEqual([two.say("begin " + line_of(clock)) for clock in (POINT, SIX, SEVEN)], ["ok"] * 3)


if __name__ == "__main__":
    unittest.main()
