"""A desk that is told rows and answers them."""

from evenlater.clocktexts import clock_line, read_clock
from evenlater.dealtexts import deal_line
from evenlater.errors import InvalidRow, InvalidText, LaterError
from evenlater.eventtexts import event_line, log_lines, read_event
from evenlater.live import LiveDeal
from evenlater.signs import is_even

NOTHING = "-"
BEGIN = "begin"
BARS = "bars"
TRIES = "tries"


def _told(answer):
    """An answer, or what is said for none."""
    return NOTHING if answer is None or answer == "" else str(answer)


def _in_row(numbers):
    return " ".join([str(number) for number in numbers])


def _state(live, row):
    """The answer to a row that asks for what the live deal is now; None for any other row."""
    clock, deal = live.clock_now(), live.deal_now()
    if row == "clock":
        return clock_line(clock)
    if row == "deal":
        return deal_line(clock, deal)
    if row == "ranks":
        return _in_row(live.ranks_now())
    if row == "after":
        return _told(live.after_now())
    if row == "even":
        return "yes" if is_even(clock, deal) else "no"
    if row == "many":
        return str(len(live))
    if row == "tally":
        return _in_row(live.tally())
    if row == "log":
        return _told(" / ".join(log_lines(live.log())[1:]))
    return None


def _event_of(live, row, text):
    """The event whose line text, the row or its end, is."""
    try:
        return read_event(live.clock_now(), text)
    except InvalidText:
        raise InvalidRow(row)


def _change(live, row):
    """The answer to a row that changes the live deal, or asks what an event would do."""
    if row == "undo":
        events = live.undo()
        return event_line(live.clock_now(), events[0])
    head, _, rest = row.partition(" ")
    if head == BARS:
        return _told(live.barred(_event_of(live, row, rest)))
    if head == TRIES:
        clock, deal = live.tried(_event_of(live, row, rest))
        return deal_line(clock, deal)
    live.go(_event_of(live, row, row))
    return str(len(live))


class Desk:
    """A desk with a live deal, at first none."""

    def __init__(self):
        self._live = None
        self._returned = 0
        self._raised = 0

    def _begin(self, row, text):
        try:
            clock = read_clock(text)
        except InvalidText:
            raise InvalidRow(row)
        self._live = LiveDeal(clock)
        return "ok"

    def _answer(self, row):
        if not isinstance(row, str):
            raise InvalidRow(row)
        head, _, rest = row.partition(" ")
        if head == BEGIN:
            return self._begin(row, rest)
        if self._live is None:
            raise InvalidRow(row)
        answer = _state(self._live, row)
        return _change(self._live, row) if answer is None else answer

    def say(self, row):
        """The answer to a row."""
        try:
            answer = self._answer(row)
        except LaterError:
            self._raised = self._raised + 1
            raise
        self._returned = self._returned + 1
        return answer

    def counts(self):
        """How many rows were answered, and how many raised an error."""
        return self._returned, self._raised
