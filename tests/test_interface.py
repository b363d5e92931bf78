"""The interface of chains.py, planning.py and live.py: where names are defined, and with which arguments."""

import inspect
import unittest

from readingring import chains, live, planning

FUNCTIONS = {
    chains: {
        "chain_of_waits": ["ring", "reader", "number"],
        "judge_chain": ["ring", "chain"],
        "pace_readers": ["ring"],
        "judge_pace": ["ring", "readers"],
    },
    planning: {
        "pace_with": ["ring", "books"],
        "fewest_books": ["ring"],
        "helpful_readers": ["ring"],
        "slowest_days": ["ring", "reader"],
        "fewest_days_less": ["ring", "days", "readings"],
        "first_unlike": ["one", "other"],
    },
}

METHODS = {
    "__init__": ["self", "ring"],
    "pass_days": ["self", "count"],
    "add": ["self", "reader"],
    "set_days": ["self", "reader", "days"],
    "take": ["self", "book"],
    "undo": ["self"],
    "redo": ["self"],
    "apply": ["self", "operations"],
    "waiting_after": ["self", "operations"],
    "__call__": ["self", "book"],
    "__len__": ["self"],
}


class InterfaceTest(unittest.TestCase):
    def test_functions(self):
        for module, functions in FUNCTIONS.items():
            for name, parameters in functions.items():
                function = vars(module)[name]
                self.assertEqual(function.__module__, module.__name__)
                self.assertEqual(list(inspect.signature(function).parameters), parameters)

    def test_live_ring(self):
        own = vars(live.LiveRing)
        self.assertEqual(live.LiveRing.__module__, "readingring.live")
        for name, parameters in METHODS.items():
            self.assertEqual(list(inspect.signature(own[name]).parameters), parameters, name)
        for name in ["__contains__", "__enter__", "__exit__"]:
            self.assertIn(name, own)
        for name in ["today", "waiting_books", "being_read", "history"]:
            self.assertIsInstance(own[name], property)
        self.assertIsInstance(own["replay"], classmethod)
        self.assertEqual(list(inspect.signature(live.LiveRing.replay).parameters), ["ring", "operations"])


if __name__ == "__main__":
    unittest.main()
