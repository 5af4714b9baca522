"""Lines of events and of logs."""

import unittest

from calls import BAD, BAD_EVENTS, BAD_LOGS, SIX_BEGIN, kept_triples, line_of, line_of_event, lines_of, some_events
from calls import some_logs
from evenlater.errors import InvalidText, NotUsable
from evenlater.eventtexts import event_line, log_lines, read_event, read_log
from evenlater.liveevents import is_event
from samples import CLOCKS, FLAT, POINT, SEVEN, SIX, SLIPS, size, turns
from test_live import MIRROR

# words that stand in no line, wherever they are
NEVER = ["", "x", "-0", "00", "01", "-01", "+1", "1\n", "\n1", "--1", "-", "1_0", "1.0", "Mirror", "deals", "clock",
         "1" * 61, "-" + "9" * 61, "7" * 1000, "(1,", "begin"]


class Refused(unittest.TestCase):
    def assert_refused(self, name, function, *values, **named):
        with self.assertRaises(NotUsable) as caught:
            function(*values, **named)
        self.assertEqual((caught.exception.word, caught.exception.at), (name, -1))

    def assert_invalid(self, line, field, function, *values, **named):
        with self.assertRaises(InvalidText) as caught:
            function(*values, **named)
        self.assertEqual((caught.exception.line, caught.exception.field), (line, field), repr(values)[:200])


class Events(Refused):
    def field(self, text, field, clock=SIX):
        self.assert_invalid(0, field, read_event, clock, text)

    def test_lines_are_read_back(self):
        for clock in CLOCKS:
            for event in some_events(clock):
                line = line_of_event(event)
                self.assertEqual(event_line(clock, event), line)
                self.assertEqual(read_event(clock, line), event)
                self.assertIs(is_event(clock, read_event(clock, line)), True)
            for part in kept_triples(clock):
                self.assertEqual(read_event(clock, event_line(clock, ("fold", part))), ("fold", part))
        self.assertEqual(event_line(event=("turn", (2, 1)), clock=SIX), "turn 2 1")
        self.assertEqual(read_event(text="scale -1 2", clock=SIX), ("scale", (-1, 2)))

    def test_each_line_spoilt_at_each_word(self):
        for clock in [POINT, SIX, SEVEN, FLAT, (10, ((3, 1),)), (1, ((59, 1),))]:
            for event in some_events(clock):
                words = line_of_event(event).split(" ")
                for k in range(len(words)):
                    for never in NEVER:
                        self.field(" ".join(words[:k] + [never] + words[k + 1:]), k, clock)
                        self.field(" ".join(words[:k] + [never]), k, clock)
                    self.field(" ".join(words[:k] + [""] + words[k:]), k, clock)
                    if k:
                        self.field(" ".join(words[:k]), k, clock)
                for more in ["", "0", "1", "x", "0 0", "mirror", "\n"]:
                    self.field(" ".join([*words, more]), len(words), clock)

    def test_the_first_word(self):
        for text in ["", " ", "  ", "deal 1 1 2 0 1 2 0", "clock 6", "undo", "begin clock 6", "Right", "mirror\n", "rights",
                     " mirror", "add_deal", "righ", "0", "bars mirror"]:
            self.field(text, 0)

    def test_deals(self):
        for word in ("right", "left", "add"):
            self.field(word, 1)
            for bad in ["Deal", "deals", "1", "scale", ""]:
                self.field(f"{word} {bad} 1 1 2 0 1 2 0", 1)
            for bad in ["0", "-1", "-0", "x"]:
                self.field(f"{word} deal {bad} 1 2 0 1 2 0", 2)
            self.field(f"{word} deal 2 2 4 0 2 4 0", 8)
            self.field(f"{word} deal 2 0 0 0 0 0 0", 8)
            self.field(f"{word} deal 2 2 4 0 2 4", 8)
            self.field(f"{word} deal 2 2 4 0 2 4 0 1", 8)
            self.field(f"{word} deal 2 2 4 0 2 4 1 1", 9)
            self.assertEqual(read_event(SIX, f"{word} deal 2 2 4 0 2 4 1"), (word, (2, (2, 4, 0, 2, 4, 1))))
            self.assertEqual(read_event(POINT, f"{word} deal 3 -2"), (word, (3, (-2,))))
            self.field(f"{word} deal 3 -6", 3, POINT)

    def test_sixty_figures(self):
        most, more = "9" * 60, "1" + "0" * 60
        for word in ("right", "left", "add"):
            self.assertEqual(read_event(POINT, f"{word} deal {most} -1"), (word, (10 ** 60 - 1, (-1,))))
            self.assertEqual(read_event(POINT, f"{word} deal 1 -{most}"), (word, (1, (1 - 10 ** 60,))))
            self.field(f"{word} deal {more} 1", 2, POINT)
            self.field(f"{word} deal 1 -{more}", 3, POINT)
            self.field(f"{word} deal 1 1 {more} 0 0 0 x", 4)
            self.field(f"{word} deal 1 1 x {more} 0 0 0", 4)
        self.assertEqual([read_event(SIX, f"scale -{most} 2"), read_event(SIX, f"scale 2 {most}")],
                         [("scale", (1 - 10 ** 60, 2)), ("scale", (2, 10 ** 60 - 1))])
        self.field(f"scale {more} 1", 1)
        self.field(f"scale -{more} 1", 1)
        self.field(f"scale 1 {more}", 2)
        self.field(f"scale {'3' * 3900} 1", 1)

    def test_quotients(self):
        for text, field in [("scale", 1), ("scale 1", 2), ("scale 2 4", 2), ("scale 0 2", 2), ("scale 0 0", 2),
                            ("scale 1 0", 2), ("scale 1 -1", 2), ("scale -6 9", 2), ("scale 1 2 3", 3), ("scale 1/2", 1),
                            ("scale 1 2 ", 3), ("scale  1 2", 1)]:
            self.field(text, field)
        self.assertEqual([read_event(SIX, text) for text in ("scale 0 1", "scale -7 1", "scale 9 10")],
                         [("scale", (0, 1)), ("scale", (-7, 1)), ("scale", (9, 10))])

    def test_moves_numbers_and_parts(self):
        for text, field in [("turn", 1), ("turn 3 0", 1), ("turn -1 0", 1), ("turn 2", 2), ("turn 2 2", 2), ("turn 0 -1", 2),
                            ("turn 0 1 0", 3), ("again", 1), ("again 0", 1), ("again 7", 1), ("again -1", 1),
                            ("again 2 2", 2), ("mirror 1", 1), ("mirror ", 1), ("mirror  ", 1), ("fold", 1), ("fold 2", 1),
                            ("fold 0", 1), ("fold 6 1 0", 1), ("fold 1", 2), ("fold 1 2 0", 2), ("fold 1 3 0", 2),
                            ("fold 3 2", 3), ("fold 3 2 1", 3), ("fold 3 2 -1", 3), ("fold 3 2 0 0", 4), ("fold 3 2 0 ", 4)]:
            self.field(text, field)
        self.field("turn 1 0", 1, POINT)
        self.field("turn 0 1", 2, POINT)
        self.field("fold 3 5 0", 1, (1, ((5, 1),)))
        for clock in CLOCKS:
            for t in (turns(clock) - 1, turns(clock)):
                for x in (clock[0] - 1, clock[0]):
                    if x < clock[0] and t < turns(clock):
                        self.assertEqual(read_event(clock, f"turn {x} {t}"), ("turn", (x, t)))
                    else:
                        self.field(f"turn {x} {t}", 1 if x == clock[0] else 2, clock)
            for a in range(clock[0] + 2):
                for f in range(turns(clock) + 2):
                    if (a, f, 0) in kept_triples(clock):
                        self.assertEqual(read_event(clock, f"fold {a} {f} 0"), ("fold", (a, f, 0)))
                    else:
                        self.field(f"fold {a} {f} 0", 2 if (a, 1, 0) in kept_triples(clock) else 1, clock)
        self.assertEqual([read_event(SIX, f"again {many}") for many in range(1, 7)], [("again", k) for k in range(1, 7)])

    def test_refused(self):
        for bad in BAD_EVENTS:
            self.assert_refused("event", event_line, SIX, bad)
        for bad in BAD["clock_text"]():
            self.assert_refused("text", read_event, SIX, bad)


class Logs(Refused):
    def test_lines_are_read_back(self):
        for clock in CLOCKS:
            for log in some_logs(clock):
                self.assertEqual(log_lines(log), lines_of(log))
                self.assertEqual(read_log(lines_of(log)), log)
        long = (SIX_BEGIN, *[("scale", (10 ** 59, 1))] * 3, *[MIRROR] * 60)
        self.assertEqual(read_log(lines=log_lines(log=long)), long)

    def test_logs_with_folds(self):
        log = ("begin", (6, ((5, 1),))), ("fold", (3, 5, 0)), ("right", (1, (1, 2))), ("fold", (2, 1, 0)), ("add", (3, (5,)))
        lines = ("clock 6 5 1", "fold 3 5 0", "right deal 1 1 2", "fold 2 1 0", "add deal 3 5")
        self.assertEqual((log_lines(log), read_log(lines)), (lines, log))
        self.assert_invalid(2, 4, read_log, lines[:2] + lines[4:])
        self.assert_invalid(1, 5, read_log, lines[:1] + lines[2:])
        self.assert_invalid(3, 1, read_log, lines[:3] + ("fold 3 1 0",))

    def test_the_first_line_that_cannot_be_read(self):
        lines = ("clock 3 2 2", "right deal 1 1 2 0 1 2 0", "mirror", "fold 3 1 0", "turn 0 1")
        for k in range(1, len(lines)):
            for bad, field in [("", 0), ("x", 0), ("again 7", 1), ("turn 3 1", 1), ("mirror mirror", 1), ("scale 1", 2),
                               ("clock 3 2 2", 0), ("begin", 0)]:
                self.assert_invalid(k, field, read_log, lines[:k] + (bad,) + lines[k + 1:])
                self.assert_invalid(k, field, read_log, (*lines[:k], bad, "", "nothing"))
        self.assert_invalid(4, 1, read_log, (*lines[:4], "turn 1 0"))
        self.assert_invalid(5, 2, read_log, (*lines, "left deal 0 1 1"))

    def test_the_line_of_the_clock(self):
        for bad, field in [("", 0), ("clock", 1), ("clock 0", 1), ("clock 4", 1), ("clock 3 2", 3), ("clock 3 2 3", 3),
                           ("clock 3 3 1", 2), ("clock 3 2 2 2 1", 4), ("mirror", 0), ("clock 61", 1), ("clock 3 2 2 ", 4),
                           (" clock 3", 0), ("begin clock 3 2 2", 0)]:
            self.assert_invalid(0, field, read_log, (bad,))
            self.assert_invalid(0, field, read_log, (bad, "mirror", "x"))
        self.assert_invalid(0, 0, read_log, ())
        for clock in CLOCKS:
            self.assertEqual(read_log((line_of(clock),)), (("begin", clock),))

    def test_refused(self):
        for bad in BAD_LOGS:
            self.assert_refused("log", log_lines, bad)
        for bad in BAD["lines"]():
            self.assert_refused("lines", read_log, bad)

    def test_what_is_passed_in_stays_as_it_is(self):
        lines = lines_of(some_logs(SIX)[1])
        before = tuple(lines)
        first, second = read_log(lines), read_log(lines)
        self.assertEqual((first, lines), (second, before))
        self.assertEqual((log_lines(first), size(SIX), SLIPS), (lines, 6, (1, (1, 2, 0, 1, 2, 0))))


if __name__ == "__main__":
    unittest.main()
