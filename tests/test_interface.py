"""Names, arguments and modules are as the document lists them."""

import inspect
import unittest
from importlib import import_module

from calls import calls
from evenlater.live import LiveDeal
from evenlater.recallclasses import Recalled

# class: module, base, arguments, and what stands in the body of the class itself
CLASSES = {
    "Clock": ("clockclasses", "object", ["beats", "movers"], {
        "form_now": None, "many_now": None, "turns_now": None, "edge_now": None,
        "__getitem__": 1, "__call__": ["move", "beat"], "__floordiv__": 1, "all_then": ["moves"], "__contains__": 1,
        "__len__": 0, "__iter__": 0, "__str__": 0, "__eq__": 1, "read": ["text"]}),
    "Flat": ("clockclasses", "Clock", ["beats"], {"shift_of": ["many"]}),
    "Deal": ("dealclasses", "object", ["clock", "deal"], {
        "its_clock": None, "its_deal": None, "its_total": None, "its_moves": None, "__add__": 1, "__sub__": 1,
        "__mul__": 1, "__neg__": 0, "__invert__": 0, "scaled": ["quotient"], "again": ["many"], "turned": ["by"],
        "folded": ["part"], "__call__": ["move"], "__contains__": 1, "__iter__": 0, "__str__": 0, "__eq__": 1,
        "read": ["clock", "text"], "even": ["clock", "quotient"]}),
    "Plain": ("dealclasses", "Deal", ["clock", "deal"], {"chance": ["move"], "from_slips": ["clock", "slips"]}),
    "Ranked": ("rankclasses", "object", ["clock", "deal"], {
        "__call__": ["piece"], "__contains__": 1, "__iter__": 0, "__and__": 1, "__eq__": 1}),
    "Later": ("evenclasses", "object", ["clock", "deal"], {
        "its_clock": None, "its_deal": None, "its_after": None, "fall": ["piece"], "falls": [], "paper": [],
        "parted": [], "again": ["many"], "dealt": ["other"], "__contains__": 1, "__len__": 0, "__str__": 0, "__eq__": 1,
        "from_many": ["clock", "many"], "read": ["clock", "text"]}),
    "Stepped": ("evenclasses", "Later", ["clock", "piece", "falls"], {"its_piece": None, "its_falls": None}),
    "Central": ("rankclasses", "Ranked", ["clock", "deal"], {"share_at": ["move"]}),
    "Recalled": ("recallclasses", "object", ["clock", "deal"], {
        "its_clock": None, "its_deal": None, "its_recall": None, "its_left": None, "its_right": None,
        "made": ["other", "*side"], "between": ["other"], "joint": ["other", "*side"], "common": ["other", "*side"],
        "swapped": [], "mirrored": [], "__contains__": 1, "__str__": 0, "__eq__": 1, "read": ["clock", "text"]}),
    "Backed": ("recallclasses", "Recalled", ["clock", "deal"], {"power": ["many"]}),
    "Evener": ("evenerclasses", "object", ["clock", "deal"], {
        "its_clock": None, "its_deal": None, "right_evener": None, "left_evener": None, "evener_many": None,
        "__call__": ["other"], "gap_to": ["other"], "pair_through": ["other"], "moves_to": ["other"], "of_mirror": [],
        "__contains__": 1, "__and__": 1, "__str__": 0, "__eq__": 1, "of_moves": ["clock", "moves"]}),
    "Filled": ("evenerclasses", "Evener", ["clock", "part"], {
        "filled_part": None, "its_chooser": None, "its_fillers": None}),
    "Drawing": ("drawclasses", "object", ["clock", "deal"], {
        "near_told": None, "__getitem__": 1, "__call__": ["many"], "wait_at": ["move"], "spread_at": ["many"],
        "drawn_again": ["many"], "then_draw": ["other"], "__len__": 0, "__iter__": 0, "__contains__": 1, "__eq__": 1,
        "of_moves": ["clock", "moves"]}),
    "Sure": ("drawclasses", "Drawing", ["clock", "move"], {"deals_to": ["other"]}),
    "LiveDeal": ("live", "object", ["clock"], {
        "clock_now": [], "deal_now": [], "ranks_now": [], "after_now": [], "right": ["deal"], "left": ["deal"],
        "add_deal": ["deal"], "scale": ["quotient"], "mirror": [], "turn": ["by"], "again": ["many"], "fold": ["part"],
        "go": ["event"], "barred": ["event"], "tried": ["event"], "undo": ["many"], "do_all": ["events", "keep"],
        "tally": [], "log": [], "__len__": 0, "__eq__": 1}),
    "Desk": ("desk", "object", [], {"say": ["row"], "counts": []}),
}


def arguments(function):
    """The names of the parameters, with a star ahead of those that are passed by keyword only."""
    told = inspect.signature(function).parameters
    return ["*" * (value.kind is inspect.Parameter.KEYWORD_ONLY) + name for name, value in told.items()]


class Interface(unittest.TestCase):
    def test_functions(self):
        for call in calls():
            with self.subTest(call=call.name):
                self.assertEqual(call.function.__module__, "evenlater." + call.module)
                self.assertEqual(arguments(call.function), call.all_params())

    def test_classes(self):
        for name, (module, base, made_of, own) in CLASSES.items():
            known = getattr(import_module("evenlater." + module), name)
            self.assertEqual((known.__module__, known.__bases__[0].__name__), ("evenlater." + module, base))
            self.assertEqual(arguments(known), made_of)
            for method, told in own.items():
                with self.subTest(name=name, method=method):
                    self.judge(known, method, told)

    def test_values_of_classes_and_defaults(self):
        self.assertEqual((LiveDeal.MOST, LiveDeal((1, ())).MOST, LiveDeal.MOST.__class__), (40, 40, int))
        defaults = [inspect.signature(method).parameters[name].default
                    for method, name in [(LiveDeal.undo, "many"), (LiveDeal.do_all, "keep"), (Recalled.made, "side"),
                                         (Recalled.joint, "side"), (Recalled.common, "side")]]
        self.assertEqual(repr(defaults), repr([1, False, "left", "left", "left"]))

    def judge(self, known, method, told):
        self.assertIn(method, vars(known))
        found = vars(known)[method]
        if told is None:
            self.assertIsInstance(found, property)
        elif isinstance(found, classmethod):
            self.assertEqual(arguments(getattr(known, method)), told)
        elif isinstance(told, list):
            self.assertEqual(arguments(found)[1:], told)
        else:
            self.assertEqual(len(arguments(found)), told + 1)


if __name__ == "__main__":
    unittest.main()
