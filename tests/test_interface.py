"""The names and arguments that the document's interface lists."""

import inspect
import unittest
from importlib import import_module

LISTED = {
    "nets": {"is_net": "thing", "turned": "net"},
    "ways": {"is_way": "net thing", "least_way": "net one other closed", "reached": "net gate"},
    "musts": {
        "musts": "net gate place",
        "holders": "net gate",
        "cut_off": "net gate place",
        "shared_must": "net gate places",
        "must_lanes": "net gate place",
    },
    "papers": {
        "lie_of": "net gate paper",
        "holds": "net gate paper",
        "musts_by": "paper place",
        "two_ways": "net gate paper place",
    },
    "making": {"paper_of": "net gate"},
    "families": {"family": "net gate place", "fits": "family order"},
    "counted": {
        "papers_many": "net gate",
        "paper_numbered": "net gate number",
        "number_of": "net gate paper",
    },
    "posts": {
        "musts_back": "net gate place",
        "parted_by": "net place",
        "leads_round": "net",
        "posts": "net",
    },
    "parts": {"only": "net places", "part_of": "paper place", "exchanged": "paper part"},
    "stretches": {"stretches": "net gate place"},
    "apart": {
        "ways_apart": "net one other",
        "blockers": "net one other",
        "lanes_apart": "net one other",
        "lane_blockers": "net one other",
    },
    "texts": {
        "show_net": "net",
        "show_places": "places",
        "show_paper": "paper",
        "read_net": "text",
        "read_places": "text",
        "read_paper": "text",
    },
}

CLASSES = {
    "keeper": {
        "Keeper": {
            "__init__": "net gate",
            "put": "one other",
            "drop": "one other",
            "close": "place",
            "reopen": "place",
            "back": "",
            "again": "",
            "net": "",
            "closed": "",
            "gate": "",
            "paper": "",
            "holders": "",
            "made": "",
        },
    },
    "looker": {
        "Looker": {"__init__": "gate paper", "lane": "one other", "drop": "one other", "lanes": "", "holds": ""},
    },
    "desk": {"Desk": {"__init__": "", "say": "row"}},
}


class Interface(unittest.TestCase):
    def test_functions_and_their_arguments(self):
        for module, functions in LISTED.items():
            for name, arguments in functions.items():
                with self.subTest(f"{module}.{name}"):
                    function = getattr(import_module(f"waymusts.{module}"), name)
                    self.assertEqual(list(inspect.signature(function).parameters), arguments.split())

    def test_classes_and_their_methods(self):
        for module, classes in CLASSES.items():
            for kind, methods in classes.items():
                for name, arguments in methods.items():
                    with self.subTest(f"{module}.{kind}.{name}"):
                        method = getattr(getattr(import_module(f"waymusts.{module}"), kind), name)
                        self.assertEqual(list(inspect.signature(method).parameters)[1:], arguments.split())


if __name__ == "__main__":
    unittest.main()
