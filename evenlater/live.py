"""A live deal: a clock and a deal of it that events change, one by one."""

from evenlater.dealfolds import folded_deal
from evenlater.dealing import dealt, dealt_again
from evenlater.dealmaking import idle_deal
from evenlater.dealsums import added, scaled
from evenlater.errors import InvalidEvent, NothingToUndo
from evenlater.evens import even_after
from evenlater.kinds import is_number
from evenlater.liveevents import ADD, AGAIN, BEGIN, FOLD, LEFT, MIRROR, RIGHT, SCALE, TURN
from evenlater.liveevents import clock_after, is_event, is_short_deal
from evenlater.mirrors import mirrored, turned_deal
from evenlater.ranks import ranks_of
from evenlater.refusals import need


def _deal_after(clock, deal, event):
    """The deal after an event of the clock."""
    word = event[0]
    if word == MIRROR:
        return mirrored(clock, deal)
    given = event[1]
    if word == RIGHT:
        return dealt(clock, deal, given)
    if word == LEFT:
        return dealt(clock, given, deal)
    if word == ADD:
        return added(clock, deal, given)
    if word == SCALE:
        return scaled(clock, deal, given)
    if word == TURN:
        return turned_deal(clock, deal, given)
    if word == AGAIN:
        return dealt_again(clock, deal, given)
    return folded_deal(clock, given, deal)


class LiveDeal:
    """A clock and a deal of it, at first the idle deal, with the events that changed them."""

    MOST = 40

    def __init__(self, clock):
        self._start = clock
        self._clock = clock
        self._deal = idle_deal(clock)
        self._events = ()
        # the clock and the deal ahead of each event
        self._ahead = ()
        self._done = 0
        self._refused = 0
        self._undone = 0

    def clock_now(self):
        """The clock."""
        return self._clock

    def deal_now(self):
        """The deal."""
        return self._deal

    def ranks_now(self):
        """The ranks of the deal."""
        return ranks_of(self._clock, self._deal)

    def after_now(self):
        """The number after which the deal comes out even, or None."""
        return even_after(self._clock, self._deal)

    def right(self, deal):
        """The deal, then this one."""
        return self.go((RIGHT, deal))

    def left(self, deal):
        """This deal ahead of the deal."""
        return self.go((LEFT, deal))

    def add_deal(self, deal):
        """The sum of the deal and this one."""
        return self.go((ADD, deal))

    def scale(self, quotient):
        """The deal with each weight times quotient."""
        return self.go((SCALE, quotient))

    def mirror(self):
        """The mirror of the deal."""
        return self.go((MIRROR,))

    def turn(self, by):
        """The deal turned by the move by."""
        return self.go((TURN, by))

    def again(self, many):
        """The power of the deal to many."""
        return self.go((AGAIN, many))

    def fold(self, part):
        """The deal folded by the part, of the folded clock."""
        return self.go((FOLD, part))

    def barred(self, event):
        """The reason for which the event would be refused, or None."""
        if not is_event(self._clock, event):
            return "form"
        if len(self._events) >= self.MOST:
            return "many"
        if not is_short_deal(_deal_after(self._clock, self._deal, event)):
            return "figures"
        return None

    def tried(self, event):
        """The clock and the deal as they would be after the event."""
        reason = self.barred(event)
        if reason is not None:
            raise InvalidEvent(event, reason)
        return clock_after(self._clock, event), _deal_after(self._clock, self._deal, event)

    def go(self, event):
        """Apply the event: the deal after it, or InvalidEvent."""
        try:
            clock, deal = self.tried(event)
        except InvalidEvent:
            self._refused = self._refused + 1
            raise
        self._events = (*self._events, event)
        self._ahead = (*self._ahead, (self._clock, self._deal))
        self._clock = clock
        self._deal = deal
        self._done = self._done + 1
        return deal

    def undo(self, many=1):
        """Take the last many events back; they are returned in their order."""
        need(is_number(many), "many")
        kept = len(self._events) - many
        if kept < 0:
            raise NothingToUndo(-kept)
        back = self._events[kept:]
        if many > 0:
            self._clock, self._deal = self._ahead[kept]
        self._events = self._events[:kept]
        self._ahead = self._ahead[:kept]
        self._undone = self._undone + many
        return back

    def do_all(self, events, keep=False):
        """Apply the events of a tuple, in order: how many. After a refused one, all of them are taken back, but with
        keep those ahead of it are kept."""
        need(isinstance(events, tuple), "events")
        need(isinstance(keep, bool), "keep")
        for at, event in enumerate(events):
            try:
                self.go(event)
            except InvalidEvent:
                if not keep:
                    self.undo(at)
                raise
        return len(events)

    def tally(self):
        """How many events were applied, how many were refused, and how many were taken back."""
        return self._done, self._refused, self._undone

    def log(self):
        """The begin, then the events that are not undone."""
        return ((BEGIN, self._start), *self._events)

    def __len__(self):
        return len(self._events)

    def __eq__(self, other):
        return isinstance(other, LiveDeal) and self._start == other._start and self._events == other._events
