"""Each parameter that is not as stated is refused, by position and by name, the first one in their order."""

import copy
import unittest

from calls import BAD, calls, shown
from evenlater.errors import NotUsable
from samples import CLOCKS, SIX


class Refusals(unittest.TestCase):
    def assert_refused(self, name, function, *values, **named):
        with self.assertRaises(NotUsable) as caught:
            function(*values, **named)
        self.assertEqual((caught.exception.word, caught.exception.at), (name, -1))
        self.assertIs(caught.exception.at.__class__, int)

    def each_param(self):
        for call in calls():
            for at, (name, kind) in enumerate(call.params):
                if kind in BAD:
                    yield call, at, name, BAD[kind]()

    def test_each_bad_value_is_refused_by_position_and_by_name(self):
        for call, at, name, bad_values in self.each_param():
            good = call.good_rows(SIX)[0]
            for bad in bad_values:
                with self.subTest(call=call.name, name=name, bad=repr(bad)[:60]):
                    row = call.first(SIX) + good[:at] + [bad] + good[at + 1:]
                    self.assert_refused(name, call.function, *row)
                    self.assert_refused(name, call.function, **dict(zip(call.all_params(), row)))

    def test_the_first_bad_one_is_named(self):
        for call, at, name, bad_values in self.each_param():
            good = call.good_rows(SIX)[0]
            with self.subTest(call=call.name, name=name):
                behind = [[None, [], True, "x"][k % 4] for k in range(at + 1, len(good))]
                row = call.first(SIX) + good[:at] + [bad_values[0]] + behind
                self.assert_refused(name, call.function, *row)
                named = list(zip(call.all_params(), row))
                self.assert_refused(name, call.function, **dict(reversed(named)))

    def test_each_call_has_wrong_inputs_for_all_but_what_is_judged(self):
        judged = [(call.name, name) for call in calls() for name, kind in call.params if kind not in BAD]
        self.assertTrue(all(name == "thing" for _, name in judged), judged)

    def test_good_values_are_not_refused(self):
        for call in calls():
            for clock in CLOCKS:
                self.ask(call, clock)

    def ask(self, call, clock):
        """Good values, by position and by name; nothing that was passed in is changed."""
        if any(len(values) == 0 for values in call.good_lists(clock)):
            return
        for row in call.good_rows(clock)[:12]:
            with self.subTest(call=call.name, clock=clock, row=repr(row)[:80]):
                passed = call.first(clock) + row
                before = copy.deepcopy(passed)
                told = call.function(*passed)
                self.assertEqual(repr(passed), repr(before))
                again = call.function(**dict(zip(call.all_params(), passed)))
                self.assertEqual(shown(told), shown(again))


class Steadiness(unittest.TestCase):
    def test_two_clocks_in_turn_have_the_same_answers_again(self):
        for call in calls():
            with self.subTest(call=call.name):
                asked = [(clock, self.one_row(call, clock)) for clock in CLOCKS[:12]]
                asked = [(clock, row) for clock, row in asked if row is not None]
                first = [shown(call.function(*call.first(clock), *row)) for clock, row in asked]
                second = [shown(call.function(*call.first(clock), *row)) for clock, row in reversed(asked)]
                self.assertEqual(first, second[::-1])

    def one_row(self, call, clock):
        if any(len(values) == 0 for values in call.good_lists(clock)):
            return None
        return call.good_rows(clock)[-1]


if __name__ == "__main__":
    unittest.main()
