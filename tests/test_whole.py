"""What the document promises of the whole program: values of one kind in another's place, and own errors alone."""

import unittest

from calls import BAD, GOOD, calls, shown, some_deals
from evenlater.clockclasses import Clock
from evenlater.dealclasses import Deal, Plain
from evenlater.dealkinds import is_deal, is_plain
from evenlater.desk import Desk
from evenlater.drawclasses import Drawing, Sure
from evenlater.errors import InvalidPaper, LaterError, NotUsable, Unrecalled
from evenlater.evenclasses import Later, Stepped
from evenlater.evenerclasses import Evener, Filled
from evenlater.kinds import is_clock, is_integer, is_move, is_moves, is_number, is_part, is_piece, is_quotient
from evenlater.live import LiveDeal
from evenlater.liveevents import is_event, is_log
from evenlater.rankclasses import Central, Ranked
from evenlater.recallclasses import Backed, Recalled
from evenlater.signs import is_alike
from samples import CLOCKS, LOOSE, SIX, SLIPS, dice, size
from test_dealclasses import Refused

# kinds of parameters whose values a function of the package tells
TELLERS = {
    "integer": is_integer, "number": is_number, "hundred": is_number, "few": is_number, "quotient": is_quotient,
    "move": lambda thing: is_move(SIX, thing), "moves": lambda thing: is_moves(SIX, thing),
    "part": lambda thing: is_part(SIX, thing), "piece": lambda thing: is_piece(SIX, thing),
    "deal": lambda thing: is_deal(SIX, thing), "solved": lambda thing: is_deal(SIX, thing),
    "ranked": lambda thing: is_deal(SIX, thing), "plain": lambda thing: is_plain(SIX, thing),
    "waited": lambda thing: is_plain(SIX, thing), "event": lambda thing: is_event(SIX, thing), "log": is_log,
    "alike": lambda thing: is_deal(SIX, thing) and is_alike(SIX, thing),
    "clock_text": lambda thing: isinstance(thing, str), "deal_text": lambda thing: isinstance(thing, str),
    "event_text": lambda thing: isinstance(thing, str), "side": lambda thing: thing in ("left", "right"),
}
OBJECTS = [Clock(*SIX), Deal(SIX, SLIPS), Plain(SIX, SLIPS), Ranked(SIX, SLIPS), Later(SIX, SLIPS), Recalled(SIX, SLIPS),
           Evener(SIX, SLIPS), Filled(SIX, (1, 2, 0)), Drawing(SIX, SLIPS), Sure(SIX, (0, 1)), LiveDeal(SIX), Desk()]


def pool():
    """Values of every kind, good and bad ones."""
    values = []
    for make in GOOD.values():
        values.extend(make(SIX)[:2])
    for make in BAD.values():
        values.extend(make()[-2:])
    return [*values, *OBJECTS]


def is_too_many(kind, value):
    """Whether a number is beyond the limit of powers."""
    return kind in ("number", "hundred", "few") and is_number(value) and value > 40


class OtherKinds(Refused):
    def test_values_of_one_kind_in_another_place(self):
        values, told = pool(), 0
        for call in calls():
            good = call.good_rows(SIX)[0]
            for at, (name, kind) in enumerate(call.params):
                for value in values:
                    if is_too_many(kind, value):
                        continue
                    row = [*call.first(SIX), *good[:at], value, *good[at + 1:]]
                    with self.subTest(call=call.name, name=name, value=repr(value)[:60]):
                        told += self.judge(call, row, name, TELLERS.get(kind), value)
        self.assertGreater(told, 1000)

    def judge(self, call, row, name, teller, value):
        """Whether the value was refused; other errors than the program's own ones come through."""
        if teller is not None and not teller(value):
            self.assert_refused(name, call.function, *row)
            return True
        try:
            call.function(*row)
        except NotUsable as error:
            # a value that is fine itself may make one behind it unfit, as a piece does with falls
            names = [known for known, _ in call.params]
            self.assertIn(error.word, names[names.index(name) + (teller is not None):])
            self.assertEqual(error.at, -1)
            return True
        except LaterError:
            return False
        return False

    def test_checkers_and_tellers_refuse_nothing_that_they_judge(self):
        for call in calls():
            if [name for name, _ in call.params][-1:] == ["thing"]:
                good = call.good_rows(SIX)[0]
                for value in pool():
                    try:
                        told = call.function(*call.first(SIX), *good[:-1], value)
                    except InvalidPaper as error:
                        self.assertTrue(call.name.startswith("lets_"))
                        self.assertIn(error.at.__class__, (int, tuple))
                        self.assertIs(error.word.__class__, str)
                    else:
                        self.assertTrue(call.name.startswith("lets_") or told.__class__ is bool)

    def test_classes(self):
        known = {"clock": is_clock, "deal": TELLERS["deal"], "plain": TELLERS["plain"], "move": TELLERS["move"],
                 "part": TELLERS["part"], "alike": TELLERS["alike"]}
        rows = [(Deal, "deal", "deal"), (Plain, "deal", "plain"), (Ranked, "deal", "deal"), (Central, "deal", "alike"),
                (Later, "deal", "deal"), (Recalled, "deal", "deal"), (Evener, "deal", "deal"), (Filled, "part", "part"),
                (Drawing, "deal", "plain"), (Sure, "move", "move"), (Backed, "deal", "deal")]
        for value in pool():
            for made, name, kind in rows:
                if not known[kind](value):
                    self.assert_refused(name, made, SIX, value)
                else:
                    try:
                        self.assertIsInstance(made(SIX, value), made)
                    except Unrecalled:
                        self.assertIs(made, Backed)
            if not TELLERS["piece"](value):
                self.assert_refused("piece", Stepped, SIX, value, (1, 0))
            self.assertIs(is_clock(value), self.is_clock(value))

    def is_clock(self, value):
        try:
            return Clock(*value).form_now == value
        except (InvalidPaper, TypeError):
            return False

    def test_objects_of_one_class_are_none_of_another_one(self):
        for one in OBJECTS:
            for other in OBJECTS:
                related = isinstance(one, other.__class__) or isinstance(other, one.__class__)
                if not related:
                    self.assertFalse(one == other)
                    self.assertTrue(one != other)
            for value in pool()[:-len(OBJECTS)]:
                self.assertIs(one == value, False)


class Turns(unittest.TestCase):
    def test_all_functions_by_turns(self):
        """Each function asked, then all others, then again of another clock and of the first one."""
        asked = [(call, clock, call.good_rows(clock)[0]) for call in calls() for clock in (SIX, LOOSE)]
        first = [shown(call.function(*call.first(clock), *row)) for call, clock, row in asked]
        second = [shown(call.function(*call.first(clock), *row)) for call, clock, row in reversed(asked)]
        self.assertEqual(first, second[::-1])

    def test_results_are_tuples_numbers_and_the_like(self):
        """Nothing that is returned is a list, a dict or a set, or contains one."""
        for call in calls():
            for row in call.good_rows(SIX)[:3]:
                self.assert_plain(call.function(*call.first(SIX), *row), call.name)

    def assert_plain(self, value, name):
        self.assertIn(value.__class__, (tuple, int, bool, str, type(None), LiveDeal), name)
        if isinstance(value, tuple):
            for element in value:
                self.assert_plain(element, name)

    def test_deals_that_were_returned_may_be_passed_in_again(self):
        for clock in [clock for clock in CLOCKS if size(clock) <= 21]:
            for call in calls():
                if [kind for _, kind in call.params] == ["solved"]:
                    deal = call.function(clock, some_deals(clock)[2])
                    if is_deal(clock, deal):
                        self.assertEqual(call.function(clock, deal), call.function(clock, deal))


class Rows(unittest.TestCase):
    def test_a_desk_told_anything(self):
        """Rows put together by chance: each is answered by a string or raises an own error, and all are counted."""
        rng = dice(401)
        words = """begin clock 3 2 2 7 1 right left add deal scale mirror turn again fold bars tries undo log after ranks
                   even many tally 0 1 2 -1 6 x""".split() + ["", "deal 1 1 2 0 1 2 0", "clock 3 2 2", "mirror"]
        desk, returned, raised = Desk(), 0, 0
        for _ in range(6000):
            row = " ".join(rng.choice(words) for _ in range(rng.choice([1, 1, 2, 2, 3, 4])))
            try:
                answer = desk.say(row)
            except LaterError:
                raised += 1
            else:
                self.assertTrue(isinstance(answer, str) and answer != "", row)
                returned += 1
            self.assertEqual(desk.counts(), (returned, raised))
        self.assertGreater(min(returned, raised), 500)


if __name__ == "__main__":
    unittest.main()
