"""The interface's names and arguments, as the document's last part lists them."""

import importlib
import inspect
import unittest

FUNCTIONS = {
    "motions": {
        "moved": ["motion", "place"],
        "behind": ["first", "second"],
        "back": ["motion"],
        "leading": ["turn", "place", "goal"],
    },
    "sayings": {
        "agree": ["one", "other"],
        "joined": ["one", "other"],
        "pool": ["sayings"],
        "widened": ["sayings"],
    },
    "plates": {
        "Plate": ["name", "width", "height", "limit", "stars"],
    },
    "webs": {
        "chains": ["ties", "start"],
        "walk": ["ties", "chain", "start"],
        "frames": ["ties", "start"],
    },
    "skies": {
        "said": ["laid", "place"],
        "unlike": ["laid", "others"],
        "chart": ["laid"],
        "face": ["laid"],
        "form": ["rows"],
        "matches": ["one", "other"],
    },
    "layings": {
        "meetings": ["ones", "others", "motion"],
        "layings": ["ones", "others", "least"],
        "sure": ["ones", "others", "least", "place"],
    },
    "deeds": {
        "deed_text": ["deed"],
        "read_deed": ["text"],
    },
    "book": {
        "Book": [],
        "replayed": ["deeds"],
    },
    "papers": {
        "book_rows": ["book"],
        "read_book": ["rows"],
    },
    "desk": {
        "Desk": [],
    },
}

METHODS = {
    ("plates", "Plate"): {"stars": ["self"], "holds": ["self", "place"], "says": ["self", "place"]},
    ("book", "Book"): {
        "put": ["self", "name", "width", "height", "limit", "stars"],
        "drop": ["self", "name"],
        "tie": ["self", "one", "other", "motion"],
        "untie": ["self", "number"],
        "undo": ["self"],
        "redo": ["self"],
        "names": ["self"],
        "window": ["self", "name"],
        "stars_of": ["self", "name"],
        "ties": ["self"],
        "lies": ["self", "one", "other"],
        "chain": ["self", "one", "other"],
        "sky": ["self", "name"],
        "skies": ["self"],
        "ask": ["self", "name", "place"],
        "chart": ["self", "name"],
        "face": ["self", "name"],
        "form": ["self", "name"],
        "matches": ["self", "one", "other"],
        "layings": ["self", "one", "other", "least"],
        "sure": ["self", "one", "other", "least", "place"],
        "carries": ["self", "number"],
        "would": ["self", "one", "other", "motion"],
        "mends": ["self", "one", "other", "motion"],
        "log": ["self"],
        "twin": ["self"],
    },
    ("desk", "Desk"): {"say": ["self", "text"], "book": ["self"]},
}


def arguments(called):
    return list(inspect.signature(called).parameters)


class InterfaceTest(unittest.TestCase):
    def test_functions_and_classes(self):
        for module_name, listed in FUNCTIONS.items():
            module = importlib.import_module(f"nightglass.{module_name}")
            for name, expected in listed.items():
                self.assertEqual(arguments(getattr(module, name)), expected, (module_name, name))

    def test_methods(self):
        for (module_name, class_name), listed in METHODS.items():
            owner = getattr(importlib.import_module(f"nightglass.{module_name}"), class_name)
            for name, expected in listed.items():
                self.assertEqual(arguments(getattr(owner, name)), expected, (class_name, name))


if __name__ == "__main__":
    unittest.main()
