"""Events, logs, live deals, and live deals replayed."""

import unittest

from calls import BAD, BAD_DEALS, BAD_EVENTS, BAD_LOGS, BAD_QUOTIENTS, LONG, SIX_BEGIN, even_of, idle_of, kept_triples
from calls import pieces, some_deals, some_events, some_logs, zero_of
from evenlater.dealclasses import Deal
from evenlater.dealfolds import folded_deal
from evenlater.dealing import dealt, dealt_again
from evenlater.dealsums import added, scaled
from evenlater.errors import InvalidEvent, LaterError, NothingToUndo, NotUsable
from evenlater.evens import even_after
from evenlater.folding import folded_clock
from evenlater.laters import later_deal
from evenlater.live import LiveDeal
from evenlater.liveevents import is_event, is_log
from evenlater.mirrors import mirrored, turned_deal
from evenlater.ranks import ranks_of
from evenlater.replaying import replayed
from samples import CLOCKS, FLAT, FLIP, JUNK, LOOSE, POINT, SEVEN, SIX, SLIPS, dice, drawn_deal, drawn_move, edge, size
from test_dealclasses import Refused, Same

METHODS = {"right": "right", "left": "left", "add": "add_deal", "scale": "scale", "mirror": "mirror", "turn": "turn",
           "again": "again", "fold": "fold"}
TINY = [POINT, SIX, LOOSE, FLAT, SEVEN, (7, ((2, 6),)), (1, ((2, 1), (3, 1)))]
MIRROR = ("mirror",)
WHOLE_LIMIT = 10 ** 60


def after(clock, deal, event):
    """The clock and the deal after an event, from the definition."""
    word, given = event[0], event[1:]
    reckoned = {"right": lambda other: dealt(clock, deal, other), "left": lambda other: dealt(clock, other, deal),
                "add": lambda other: added(clock, deal, other), "scale": lambda quotient: scaled(clock, deal, quotient),
                "mirror": lambda: mirrored(clock, deal), "turn": lambda by: turned_deal(clock, deal, by),
                "again": lambda many: dealt_again(clock, deal, many),
                "fold": lambda part: folded_deal(clock, part, deal)}
    return folded_clock(clock, given[0]) if word == "fold" else clock, reckoned[word](*given)


def is_long(deal):
    return max(map(abs, (deal[0], *deal[1]))) >= WHOLE_LIMIT


def state(live):
    return live.clock_now(), live.deal_now(), live.log(), len(live)


def drawn_event(clock, rng, folds=True):
    deal = drawn_deal(clock, rng, 3)
    kept = [part for part in kept_triples(clock) if part != (1, 1, 0)]
    events = [("right", deal), ("left", deal), ("add", deal), ("scale", (rng.choice([-2, 1, 3]), rng.choice([1, 5, 7]))),
              MIRROR, ("turn", drawn_move(clock, rng)), ("again", rng.choice([1, 2])), ("right", idle_of(clock))]
    if folds and kept and rng.random() < 0.1:
        return "fold", rng.choice(kept)
    return rng.choice(events)


class Events(unittest.TestCase):
    def test_events(self):
        for clock in CLOCKS:
            for event in some_events(clock):
                self.assertIs(is_event(clock, event), True)
            for deal in some_deals(clock):
                self.assertTrue(all(is_event(clock, (word, deal)) for word in ("right", "left", "add")))
            self.assertEqual([many for many in range(-2, 10) if is_event(clock, ("again", many))], [1, 2, 3, 4, 5, 6])
            parts = [(a, f, spot) for a in range(clock[0] + 2) for f in range(size(clock) + 2) for spot in (-1, 0, 1)]
            self.assertEqual(sorted(part for part in parts if is_event(clock, ("fold", part))),
                             sorted(kept_triples(clock)))

    def test_no_events(self):
        self.assertEqual([bad for bad in BAD_EVENTS if is_event(SIX, bad)], [])
        for word in ("right", "left", "add"):
            self.assertEqual([bad for bad in BAD_DEALS if is_event(SIX, (word, bad))], [])
        self.assertEqual([bad for bad in BAD_QUOTIENTS if is_event(SIX, ("scale", bad))], [])
        self.assertEqual([bad for bad in BAD["move"]() if is_event(SIX, ("turn", bad))], [])
        self.assertEqual([bad for bad in BAD["kept"]() if is_event(SIX, ("fold", bad))], [])
        for bad in [*BAD["integer"](), 0, 7, -1, 10 ** 99]:
            self.assertIs(is_event(thing=("again", bad), clock=SIX), False)

    def test_sixty_figures(self):
        most = 10 ** 60 - 1
        for clock in (POINT, SIX):
            n = size(clock)
            for weights in [(most,) + (1,) * (n - 1), (1,) * (n - 1) + (-most,)]:
                self.assertTrue(is_event(clock, ("add", (1, weights))) and is_event(clock, ("right", (2, weights))))
            for weights in [(most + 1,) + (1,) * (n - 1), (1,) * (n - 1) + (-most - 1,)]:
                self.assertFalse(is_event(clock, ("add", (1, weights))) or is_event(clock, ("left", (7, weights))))
            one = (1,) * n
            self.assertEqual([is_event(clock, ("left", (bottom, one))) for bottom in (most, most + 1, 10 ** 99)],
                             [True, False, False])
        told = [(most, 1), (-most, 1), (1, most), (most + 1, 1), (-most - 1, 1), (1, most + 1), (10 ** 99, 10 ** 99 - 1)]
        self.assertEqual([is_event(SIX, ("scale", quotient)) for quotient in told], [True] * 3 + [False] * 4)

    def test_logs(self):
        for clock in CLOCKS:
            for log in some_logs(clock):
                self.assertIs(is_log(log), True)
                self.assertIs(is_log(list(log)), False)
        self.assertEqual([bad for bad in BAD_LOGS if is_log(bad)], [])
        # any number of events, also ones that a live deal refuses
        self.assertIs(is_log((SIX_BEGIN, *[MIRROR] * 99)), True)
        self.assertIs(is_log((SIX_BEGIN, *[("scale", (10 ** 59, 1))] * 3)), True)

    def test_logs_with_folds(self):
        begin, once = ("begin", (6, ((5, 1),))), (2, ())
        fold = ("fold", (3, 5, 0))
        self.assertEqual([is_log((begin, fold, ("right", (1, (1, 2))))), is_log((begin, ("right", (1, (1, 2))))),
                          is_log((begin, fold, ("fold", (2, 1, 0)), ("add", (1, (5,))))), is_log((begin, fold, fold))],
                         [True, False, True, False])
        self.assertTrue(is_event(once, ("fold", (2, 1, 0))))


class Live(Refused):
    def assert_event_refused(self, live, event, reason, call):
        before, tally = state(live), live.tally()
        with self.assertRaises(LaterError) as caught:
            call()
        self.assertIs(caught.exception.__class__, InvalidEvent)
        self.assertEqual(list(vars(caught.exception)), ["event", "reason"])
        self.assertEqual(repr((caught.exception.event, caught.exception.reason)), repr((event, reason)))
        self.assertEqual(state(live), before)
        self.assertEqual(live.tally(), (tally[0], tally[1] + 1, tally[2]))

    def test_at_first(self):
        for clock in CLOCKS:
            live = LiveDeal(clock)
            self.assertEqual(state(live), (clock, idle_of(clock), (("begin", clock),), 0))
            self.assertEqual((live.tally(), live.undo(0), live.tally()), ((0, 0, 0), (), (0, 0, 0)))
            self.assertEqual(live.after_now(), 1 if size(clock) == 1 else None)
            if size(clock) <= 42:
                self.assertEqual(live.ranks_now(), tuple(edge(clock, a) for a, _ in pieces(clock)))
        self.assertEqual(LiveDeal(clock=SIX).clock_now(), SIX)

    def test_each_event(self):
        for clock in CLOCKS:
            for event in some_events(clock):
                live, by_go = LiveDeal(clock), LiveDeal(clock)
                start = some_deals(clock)[5]
                live.right(start)
                by_go.go(event=("right", start))
                told = after(clock, start, event)
                if is_long(told[1]):
                    continue
                self.assertEqual(getattr(live, METHODS[event[0]])(*event[1:]), told[1])
                self.assertEqual((by_go.barred(event), by_go.tried(event), by_go.go(event)), (None, told, told[1]))
                self.assertEqual(state(live), (*told, (("begin", clock), ("right", start), event), 2))
                self.assertEqual((state(by_go), live.tally(), by_go.tally()), (state(live), (2, 0, 0), (2, 0, 0)))

    def test_by_name(self):
        live = LiveDeal(SIX)
        live.right(deal=FLIP), live.left(deal=SLIPS), live.add_deal(deal=FLIP), live.scale(quotient=(1, 3))
        live.turn(by=(1, 1)), live.again(many=2), live.mirror(), live.fold(part=(3, 1, 0))
        self.assertEqual(live.log()[1:], (("right", FLIP), ("left", SLIPS), ("add", FLIP), ("scale", (1, 3)),
                                          ("turn", (1, 1)), ("again", 2), MIRROR, ("fold", (3, 1, 0))))
        self.assertEqual((live.barred(event=MIRROR), live.tried(event=MIRROR)[0], live.undo(many=1)),
                         (None, (1, ((2, 1),)), (("fold", (3, 1, 0)),)))
        self.assertEqual(live.do_all(keep=True, events=(MIRROR,)), 1)

    def test_what_it_tells(self):
        rng = dice(351)
        for clock in TINY:
            live = LiveDeal(clock)
            for _ in range(30):
                event = drawn_event(live.clock_now(), rng)
                before = live.clock_now(), live.deal_now()
                reason = live.barred(event)
                told = after(*before, event)
                self.assertEqual(reason, "figures" if is_long(told[1]) else None)
                if reason is None:
                    self.assertEqual(live.go(event), told[1])
                    self.assertEqual((live.clock_now(), live.deal_now()), told)
                    self.assertEqual(live.after_now(), even_after(*told))
                    self.assertEqual(live.ranks_now(), ranks_of(*told))
                else:
                    self.assert_event_refused(live, event, "figures", lambda: live.go(event))

    def test_form(self):
        live = LiveDeal(SIX)
        live.right(SLIPS)
        for bad in [*BAD_EVENTS, live, Same()]:
            self.assertEqual(live.barred(bad), "form")
            with self.assertRaises(InvalidEvent) as caught:
                live.go(bad)
            self.assertIs(caught.exception.event, bad)
            with self.assertRaises(InvalidEvent) as caught:
                live.tried(bad)
            self.assertIs(caught.exception.event, bad)
        self.assertEqual((live.tally(), live.deal_now()), ((1, len(BAD_EVENTS) + 2, 0), SLIPS))
        for name, bad_values in [("right", BAD_DEALS), ("left", BAD_DEALS), ("add", BAD_DEALS), ("scale", BAD_QUOTIENTS),
                                 ("turn", BAD["move"]()), ("again", [*BAD["integer"](), 0, 7]), ("fold", BAD["kept"]())]:
            for bad in bad_values:
                self.assert_event_refused(live, (name, bad), "form", lambda: getattr(live, METHODS[name])(bad))
        kept = [1, 2]
        with self.assertRaises(InvalidEvent) as caught:
            live.turn(kept)
        self.assertIs(caught.exception.event[1], kept)

    def test_events_of_the_clock_as_it_is(self):
        live = LiveDeal((6, ((5, 1),)))
        live.fold((3, 5, 0))
        self.assertEqual(live.clock_now(), (2, ()))
        self.assert_event_refused(live, ("fold", (3, 1, 0)), "form", lambda: live.fold((3, 1, 0)))
        self.assert_event_refused(live, ("turn", (2, 0)), "form", lambda: live.turn((2, 0)))
        self.assertEqual(live.right((1, (1, 2))), (1, (1, 2)))
        live.undo(2)
        self.assertEqual(live.clock_now(), (6, ((5, 1),)))
        self.assert_event_refused(live, ("right", (1, (1, 2))), "form", lambda: live.right((1, (1, 2))))

    def test_forty_events(self):
        live = LiveDeal(SIX)
        self.assertEqual(live.do_all((MIRROR,) * 39), 39)
        self.assertEqual((live.barred(MIRROR), live.mirror(), len(live)), (None, idle_of(SIX), 40))
        for event in (MIRROR, ("turn", (0, 0)), ("scale", (10 ** 59, 1)), ("fold", (3, 2, 0))):
            self.assertEqual(live.barred(event), "many")
            self.assert_event_refused(live, event, "many", lambda: live.go(event))
        self.assert_event_refused(live, ("again", 7), "form", lambda: live.again(7))
        self.assertEqual(live.tally(), (40, 5, 0))
        live.undo(2)
        self.assertEqual((live.barred(MIRROR), live.do_all((MIRROR, MIRROR)), live.tally()), (None, 2, (42, 5, 2)))
        # what is too many is said ahead of what is too long
        live.undo(40)
        live.scale((10 ** 59, 1))
        self.assertEqual(live.barred(("scale", (10, 1))), "figures")
        live.do_all((MIRROR,) * 39)
        self.assertEqual([live.barred(("scale", (10, 1))), live.barred(("scale", (10, 2)))], ["many", "form"])

    def test_figures(self):
        live = LiveDeal(SIX)
        most = 10 ** 60 - 1
        self.assertEqual(live.scale((most, 1)), (1, (most, 0, 0, 0, 0, 0)))
        self.assert_event_refused(live, ("add", idle_of(SIX)), "figures", lambda: live.add_deal(idle_of(SIX)))
        self.assert_event_refused(live, ("again", 2), "figures", lambda: live.again(2))
        self.assert_event_refused(live, ("scale", (-2, 1)), "figures", lambda: live.scale((-2, 1)))
        self.assertEqual([live.scale((-1, 1))[1][0], live.scale((1, most))], [-most, (1, (-1, 0, 0, 0, 0, 0))])
        self.assertEqual(live.scale((1, most)), (most, (-1, 0, 0, 0, 0, 0)))
        self.assert_event_refused(live, ("scale", (1, 2)), "figures", lambda: live.scale((1, 2)))
        self.assert_event_refused(live, ("right", (7, (1,) * 6)), "figures", lambda: live.right((7, (1,) * 6)))
        self.assertEqual(live.scale((most, 1)), (1, (-1, 0, 0, 0, 0, 0)))
        # what a fold adds up may grow too long, too
        live.scale((0, 1))
        live.add_deal((1, (most, 0, 0, 0, 0, most)))
        self.assert_event_refused(live, ("fold", (3, 2, 0)), "figures", lambda: live.fold((3, 2, 0)))
        self.assertEqual(live.fold((3, 1, 0)), (1, (most, most)))
        with self.assertRaises(InvalidEvent):
            live.tried(("fold", (1, 2, 0)))

    def test_trying_changes_and_counts_nothing(self):
        live = LiveDeal(SIX)
        live.right(SLIPS)
        before = state(live), live.tally()
        for event in [MIRROR, ("again", 7), None, ("fold", (3, 2, 0)), ("add", FLIP)]:
            live.barred(event)
            try:
                live.tried(event)
            except InvalidEvent as error:
                self.assertEqual(error.event, event)
        self.assertEqual((state(live), live.tally()), before)

    def test_equal(self):
        one, two = LiveDeal(SIX), LiveDeal(SIX)
        self.assertTrue(one == two and not one != two)
        one.right(SLIPS)
        self.assertFalse(one == two)
        two.right(SLIPS), two.mirror()
        self.assertTrue(one != two)
        two.undo()
        # what was undone or refused is not told by a log
        self.assertTrue(one == two and two == one)
        for thing in [LiveDeal(LOOSE), LiveDeal(POINT), *JUNK, one.log(), one.deal_now(), Deal(SIX, SLIPS)]:
            self.assertIs(one == thing, False)
            self.assertIs(one != thing, True)

        class Own(LiveDeal):
            pass
        own = Own(SIX)
        own.right(SLIPS)
        self.assertTrue(own == one and one == own)
        self.assertFalse(LiveDeal(LOOSE) == LiveDeal(SIX))
        folded, other = LiveDeal(SIX), LiveDeal((1, ()))
        folded.fold((3, 2, 0))
        self.assertEqual((folded.clock_now(), folded.deal_now()), (other.clock_now(), other.deal_now()))
        self.assertFalse(folded == other)

    def test_two_live_deals_do_not_meddle(self):
        one, two = LiveDeal(SIX), LiveDeal(SIX)
        one.right(SLIPS), two.left(FLIP), one.again(2), two.mirror()
        self.assertEqual([one.log()[1:], two.log()[1:]], [(("right", SLIPS), ("again", 2)), (("left", FLIP), MIRROR)])
        log = one.log()
        one.undo(2)
        self.assertEqual((len(log), len(one), len(two)), (3, 0, 2))


class Undoing(Refused):
    def live(self, clock, rng, many):
        live = LiveDeal(clock)
        while len(live) < many:
            event = drawn_event(live.clock_now(), rng)
            if live.barred(event) is None:
                live.go(event)
        return live

    def test_undo_and_do_all_again(self):
        rng = dice(361)
        for clock in TINY:
            live, states = LiveDeal(clock), []
            states.append(state(live))
            for _ in range(14):
                event = drawn_event(live.clock_now(), rng)
                if live.barred(event) is None:
                    live.go(event)
                    states.append(state(live))
            for many in (0, 1, 3, len(live)):
                done, refused, undone = live.tally()
                events = live.undo(many)
                self.assertEqual(events, states[-1][2][len(states[-1][2]) - many:])
                self.assertEqual(state(live), states[-1 - many])
                self.assertEqual(live.tally(), (done, refused, undone + many))
                self.assertEqual(live.do_all(events), many)
                self.assertEqual(state(live), states[-1])
                self.assertEqual(live.tally(), (done + many, refused, undone + many))
                self.assertEqual(live.tally()[0] - live.tally()[2], len(live))

    def test_too_many(self):
        live = LiveDeal(SIX)
        live.right(SLIPS), live.fold((3, 1, 0))
        before, tally = state(live), live.tally()
        for many, steps in [(3, 1), (10, 8), (10 ** 59, 10 ** 59 - 2)]:
            with self.assertRaises(NothingToUndo) as caught:
                live.undo(many)
            self.assertEqual(vars(caught.exception), {"steps": steps})
        for bad in BAD["number"]():
            self.assert_refused("many", live.undo, bad)
            self.assert_refused("many", live.undo, many=bad)
        self.assertEqual((state(live), live.tally()), (before, tally))
        self.assertEqual((live.undo(), live.undo(), live.deal_now()), ((("fold", (3, 1, 0)),), (("right", SLIPS),),
                                                                      idle_of(SIX)))
        with self.assertRaises(NothingToUndo) as caught:
            live.undo()
        self.assertEqual(caught.exception.steps, 1)

    def test_do_all_that_is_refused(self):
        rng = dice(362)
        for clock in TINY:
            live = self.live(clock, rng, 3)
            now = live.clock_now()
            events = (MIRROR, ("scale", (3, 2)), ("turn", (now[0], 0)), ("again", 2))
            before, tally = state(live), live.tally()
            self.assert_all_refused(live, events, False)
            self.assertEqual((state(live), live.tally()), (before, (tally[0] + 2, tally[1] + 1, tally[2] + 2)))
            self.assert_all_refused(live, events, True)
            own = after(*after(*before[:2], MIRROR), ("scale", (3, 2)))
            self.assertEqual(state(live), (*own, before[2] + events[:2], before[3] + 2))
            self.assertEqual(live.tally(), (tally[0] + 4, tally[1] + 2, tally[2] + 2))

    def assert_all_refused(self, live, events, keep):
        with self.assertRaises(InvalidEvent) as caught:
            live.do_all(events, keep)
        self.assertEqual((caught.exception.event, caught.exception.reason), (events[2], "form"))

    def test_do_all_with_folds(self):
        live = LiveDeal((6, ((5, 1),)))
        events = ("fold", (3, 1, 0)), ("add", even_of((2, ((5, 1),)))), ("fold", (1, 5, 0)), ("turn", (1, 0))
        self.assertEqual(live.do_all(events), 4)
        self.assertEqual((live.clock_now(), live.log()), ((2, ()), (("begin", (6, ((5, 1),))), *events)))
        self.assertEqual((live.undo(4), live.clock_now(), live.deal_now()),
                         (events, (6, ((5, 1),)), idle_of((6, ((5, 1),)))))
        with self.assertRaises(InvalidEvent):
            live.do_all((*events, ("turn", (2, 0))))
        self.assertEqual((live.clock_now(), live.tally()), ((6, ((5, 1),)), (8, 1, 8)))

    def test_no_events_and_too_many(self):
        live = LiveDeal(SIX)
        self.assertEqual((live.do_all(()), live.do_all((), True), live.tally()), (0, 0, (0, 0, 0)))
        with self.assertRaises(InvalidEvent) as caught:
            live.do_all((MIRROR,) * 41)
        self.assertEqual((caught.exception.reason, len(live), live.tally()), ("many", 0, (40, 1, 40)))
        with self.assertRaises(InvalidEvent):
            live.do_all((MIRROR,) * 41, keep=True)
        self.assertEqual((len(live), live.tally()), (40, (80, 2, 40)))

    def test_bad_parameters(self):
        live = LiveDeal(SIX)
        for bad in [None, True, 0, [], [MIRROR], "mirror", "", live, Same()]:
            self.assert_refused("events", live.do_all, bad)
            self.assert_refused("events", live.do_all, events=bad, keep=None)
        for bad in [None, 0, 1, "True", (), [], (True,)]:
            self.assert_refused("keep", live.do_all, (MIRROR,), bad)
            self.assert_refused("keep", live.do_all, ("no event",), keep=bad)
        self.assertEqual((live.tally(), len(live)), ((0, 0, 0), 0))


class Consequences(unittest.TestCase):
    """What the document says of after_now and ranks_now."""

    def each(self, seed, clocks=tuple(TINY)):
        rng = dice(seed)
        for clock in clocks:
            for deal in some_deals(clock)[:2] + [even_of(clock), drawn_deal(clock, rng, 3)]:
                yield clock, deal, rng
            for k in range(1, edge(clock, clock[0]) + 1):
                # deals that come out even late, at each number there is
                yield clock, later_deal(clock, k), rng

    def lives(self, clock, deal):
        live = LiveDeal(clock)
        live.right(deal)
        return live, live.after_now(), live.ranks_now()

    def test_what_leaves_after_as_it_is(self):
        for clock, deal, rng in self.each(371):
            for event in [MIRROR, ("turn", drawn_move(clock, rng)), ("add", even_of(clock, 3)), ("scale", (-2, 7))]:
                live, known, ranks = self.lives(clock, deal)
                live.go(event)
                self.assertEqual(live.after_now(), known)
                if event[0] != "add":
                    self.assertEqual(live.ranks_now(), ranks)

    def test_ranks_do_not_grow(self):
        for clock, deal, rng in self.each(372):
            for event in [("right", drawn_deal(clock, rng, 1)), ("left", zero_of(clock)), ("again", 3),
                          ("left", drawn_deal(clock, rng, 2))]:
                live, _, ranks = self.lives(clock, deal)
                live.go(event)
                self.assertTrue(all(a <= b for a, b in zip(live.ranks_now(), ranks)))

    def test_again(self):
        told = set()
        for clock, deal, _ in self.each(373):
            for many in range(1, 7):
                live, known, _ = self.lives(clock, deal)
                if live.barred(("again", many)) is None:
                    live.again(many)
                    self.assertEqual(live.after_now(), None if known is None else -(-known // many))
                    told.add((known, live.after_now()))
        self.assertLessEqual({(None, None), (1, 1), (2, 1), (2, 2), (3, 2)}, told)

    def test_both_ways(self):
        for clock, deal, rng in self.each(374):
            for other in (drawn_deal(clock, rng, 1), even_of(clock), deal):
                afters = []
                for word in ("right", "left"):
                    live, _, _ = self.lives(clock, deal)
                    live.go((word, other))
                    afters.append(live.after_now())
                self.assertEqual(afters[0] is None, afters[1] is None)
                if afters[0]:
                    self.assertLessEqual(abs(afters[0] - afters[1]), 1)

    def test_folds(self):
        for clock, deal, _ in self.each(375):
            for part in kept_triples(clock):
                live, known, ranks = self.lives(clock, deal)
                ranks = dict(zip(pieces(clock), ranks))
                live.fold(part)
                self.assertEqual(live.ranks_now(), tuple(ranks[piece] for piece in pieces(live.clock_now())))
                if known is not None:
                    self.assertLessEqual(live.after_now(), known)


class Replaying(Refused):
    def test_logs_of_live_deals(self):
        rng = dice(381)
        for clock in TINY:
            live = LiveDeal(clock)
            for _ in range(25):
                event = drawn_event(live.clock_now(), rng)
                if live.barred(event) is None:
                    live.go(event)
                if rng.random() < 0.2 and len(live):
                    live.undo()
            again = replayed(live.log())
            self.assertEqual((again.__class__, state(again), again.tally()), (LiveDeal, state(live), (len(live), 0, 0)))
            self.assertTrue(again == live and is_log(live.log()))
            again.mirror()
            self.assertFalse(again == live)
        self.assertEqual(state(replayed(log=(SIX_BEGIN,))), state(LiveDeal(SIX)))

    def test_no_logs(self):
        for bad in [*BAD_LOGS, LiveDeal(SIX), Same()]:
            self.assert_refused("log", replayed, bad)
            self.assert_refused("log", replayed, log=bad)

    def test_logs_that_a_live_deal_refuses(self):
        with self.assertRaises(InvalidEvent) as caught:
            replayed((SIX_BEGIN, *[MIRROR] * 40, ("turn", (1, 0)), MIRROR))
        self.assertEqual((caught.exception.event, caught.exception.reason), (("turn", (1, 0)), "many"))
        grows = ("scale", (10 ** 40, 1))
        with self.assertRaises(InvalidEvent) as caught:
            replayed((SIX_BEGIN, grows, ("scale", (10 ** 19, 1)), ("scale", (11, 1)), grows))
        self.assertEqual((caught.exception.event, caught.exception.reason), (("scale", (11, 1)), "figures"))
        self.assertEqual(len(replayed((SIX_BEGIN, *[MIRROR] * 40))), 40)
        # a value that is no log is told ahead of events that are refused
        with self.assertRaises(NotUsable):
            replayed((SIX_BEGIN, *[MIRROR] * 41, ("turn", (3, 0))))
        self.assertEqual(LONG, WHOLE_LIMIT)


if __name__ == "__main__":
    unittest.main()
