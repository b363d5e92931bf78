"""The interface of all files: where names are defined, and with which arguments."""

import inspect
import unittest

from readingring import chains, codec, diaries, live, notation, planning, rings, schedule

FUNCTIONS = {
    schedule: {
        "begin_day": ["ring", "reader", "number"],
        "book_of": ["ring", "reader", "number"],
        "readings_by": ["ring", "reader", "day"],
        "heap_on": ["ring", "reader", "day"],
        "longest_heap": ["ring", "reader"],
        "settled": ["ring"],
        "first_meeting": ["ring", "one", "other"],
    },
    chains: {
        "chain_of_waits": ["ring", "reader", "number"],
        "judge_chain": ["ring", "chain"],
        "pace_readers": ["ring"],
        "judge_pace": ["ring", "readers"],
    },
    planning: {
        "pace_with": ["ring", "books"],
        "fewest_books": ["ring"],
        "helpful_readers": ["ring"],
        "slowest_days": ["ring", "reader"],
        "fewest_days_less": ["ring", "days", "readings"],
        "first_unlike": ["one", "other"],
    },
    diaries: {"diary_of": ["ring", "count"], "mended": ["ring", "diary"]},
    notation: {"format_ring": ["ring"], "parse_ring": ["text"], "chart": ["ring", "count"]},
    codec: {
        "pack_bytes": ["values"],
        "unpack_bytes": ["data"],
        "encode_ring": ["ring"],
        "decode_ring": ["data"],
    },
}

RING_METHODS = {
    "__init__": ["self", "days", "starts"],
    "with_days": ["self", "reader", "days"],
    "__call__": ["self", "reader", "number"],
    "__len__": ["self"],
}

LIVE_METHODS = {
    "__init__": ["self", "ring"],
    "pass_days": ["self", "count"],
    "add": ["self", "reader"],
    "set_days": ["self", "reader", "days"],
    "take": ["self", "book"],
    "undo": ["self"],
    "redo": ["self"],
    "apply": ["self", "operations"],
    "waiting_after": ["self", "operations"],
    "__call__": ["self", "book"],
    "__len__": ["self"],
}


OBSERVER_METHODS = {
    "__init__": ["self", "ring", "reader"],
    "see_end": ["self", "reader", "number", "day"],
    "see_open": ["self", "reader", "number", "day"],
    "possible_ends": ["self", "reader", "number"],
    "telling_number": ["self", "reader", "limit"],
}


class InterfaceTest(unittest.TestCase):
    def check_class(self, module, some_class, methods, properties):
        """Assert that a class has all this itself, not only by a base class."""
        own = vars(some_class)
        self.assertEqual(some_class.__module__, module.__name__)
        for name, parameters in methods.items():
            self.assertEqual(list(inspect.signature(own[name]).parameters), parameters, name)
        for name in properties:
            self.assertIsInstance(own[name], property)

    def check_class_method(self, some_class, name, parameters):
        self.assertIsInstance(vars(some_class)[name], classmethod)
        self.assertEqual(list(inspect.signature(getattr(some_class, name)).parameters), parameters)

    def test_functions(self):
        for module, functions in FUNCTIONS.items():
            for name, parameters in functions.items():
                function = vars(module)[name]
                self.assertEqual(function.__module__, module.__name__)
                self.assertEqual(list(inspect.signature(function).parameters), parameters)

    def test_ring(self):
        self.check_class(rings, rings.Ring, RING_METHODS, ["days", "starts", "books", "pace"])
        self.check_class_method(rings.Ring, "single", ["days"])
        for name in ["__getitem__", "__rshift__", "__eq__"]:
            self.assertIn(name, vars(rings.Ring))

    def test_live_ring(self):
        self.check_class(live, live.LiveRing, LIVE_METHODS, ["today", "waiting_books", "being_read", "history"])
        self.check_class_method(live.LiveRing, "replay", ["ring", "operations"])
        for name in ["__contains__", "__enter__", "__exit__"]:
            self.assertIn(name, vars(live.LiveRing))

    def test_days_observer(self):
        self.check_class(diaries, diaries.DaysObserver, OBSERVER_METHODS, ["possible_days", "observations"])
        self.check_class_method(diaries.DaysObserver, "from_log", ["ring", "reader", "observations"])


if __name__ == "__main__":
    unittest.main()
