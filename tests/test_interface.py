"""The interface: each name, its arguments, and that each method stands in the class itself."""

import importlib
import inspect
import unittest

FUNCTIONS = {
    "amounts": {
        "amount": ["num", "den"], "plus": ["one", "other"], "minus": ["one", "other"], "times": ["one", "many"],
        "below": ["one", "other"], "shown_amount": ["one"],
    },
    "web": {
        "other": ["end"], "comb": ["rows", "cols"], "corner": ["web", "end"], "corners": ["web"],
        "rim": ["web", "end"], "rims": ["web"],
    },
    "looker": {"web_fault": ["found"]},
    "moves": {
        "pushed": ["web", "film"], "pulled": ["web", "film"], "burst": ["web", "film"],
        "parted": ["web", "one", "two", "first"], "blown": ["web", "end", "first"],
    },
    "hours": {"first_to_go": ["rows"]},
    "alike": {
        "telling": ["one", "other"], "partings": ["one", "other"], "telling_fault": ["one", "other", "pairs"],
    },
    "roads": {"neighbours": ["web", "end"], "road": ["web", "one", "two"], "far": ["web", "one", "two"]},
    "words": {"shown": ["order"], "read": ["text"], "shown_row": ["row"]},
    "log": {"log_of": ["lines"]},
}
CLASSES = {
    ("froth", "Froth"): {
        "__init__": ["rows", "cols", "gases"], "deed": ["order"], "hour": [], "bubbles": [], "gas": ["name"],
        "sides": ["name"], "bubble_of": ["end"], "web": [], "total": [], "next_to_go": [], "book": [],
        "ledger": ["name"], "gas_at": ["name", "hour"], "picture": [], "twin": [],
    },
    ("log", "Log"): {
        "__init__": ["rows", "cols", "gases"], "deed": ["order"], "back": [], "forth": [], "stand": [], "at": ["stand"],
        "froth": [], "told": [],
    },
    ("desk", "Desk"): {"__init__": [], "say": ["text"]},
}


def module(name):
    return importlib.import_module(f"frothwane.{name}")


class InterfaceTest(unittest.TestCase):
    def test_functions(self):
        for place, functions in FUNCTIONS.items():
            for name, wanted in functions.items():
                with self.subTest((place, name)):
                    found = getattr(module(place), name)
                    self.assertEqual(wanted, list(inspect.signature(found).parameters))
                    self.assertEqual(f"frothwane.{place}", found.__module__)

    def test_methods_stand_in_their_class(self):
        for (place, name), methods in CLASSES.items():
            for method, wanted in methods.items():
                with self.subTest((place, name, method)):
                    found = vars(getattr(module(place), name))[method]
                    self.assertEqual(["self"] + wanted, list(inspect.signature(found).parameters))


if __name__ == "__main__":
    unittest.main()
