"""The names and arguments that the document's interface lists, of the modules that there are."""

import inspect
import unittest
from importlib import import_module

LISTED = {
    "nets": {"is_net": "thing", "turned": "net"},
    "ways": {"is_way": "net thing", "least_way": "net one other closed", "reached": "net gate"},
    "musts": {
        "musts": "net gate place",
        "holders": "net gate",
        "cut_off": "net gate place",
        "shared_must": "net gate places",
        "must_lanes": "net gate place",
    },
    "papers": {
        "lie_of": "net gate paper",
        "holds": "net gate paper",
        "musts_by": "paper place",
        "two_ways": "net gate paper place",
    },
    "making": {"paper_of": "net gate"},
    "families": {"family": "net gate place", "fits": "family order"},
    "counted": {
        "papers_many": "net gate",
        "paper_numbered": "net gate number",
        "number_of": "net gate paper",
    },
}


class Interface(unittest.TestCase):
    def test_functions_and_their_arguments(self):
        for module, functions in LISTED.items():
            for name, arguments in functions.items():
                with self.subTest(f"{module}.{name}"):
                    function = getattr(import_module(f"waymusts.{module}"), name)
                    self.assertEqual(list(inspect.signature(function).parameters), arguments.split())


if __name__ == "__main__":
    unittest.main()
