"""The interface: names, arguments, and where they are defined."""

import inspect
import unittest

from drivermatch import desk, judging, notes, rest
from drivermatch.desk import Desk

FUNCTIONS = {
    rest: {"fit": ["claims", "marks"], "at_rest": ["things", "helpers"], "could": ["things", "helpers", "held"]},
    judging: {"judge": ["log"]},
    notes: {"written": ["things", "helpers"], "read": ["text"]},
}
METHODS = {
    "plug": ["thing"], "come": ["claims", "room"], "settle": [], "unplug": ["number"], "fall": ["helper"],
    "answer": ["helper"], "things": [], "helpers": [], "standing": [], "row": ["helper"], "holds": ["helper"],
    "told": [],
}


class Interface(unittest.TestCase):
    def test_functions(self):
        for module, functions in FUNCTIONS.items():
            for name, arguments in functions.items():
                function = getattr(module, name)
                self.assertEqual(function.__module__, module.__name__)
                self.assertEqual(list(inspect.signature(function).parameters), arguments)

    def test_the_desk_defines_each_method_itself(self):
        self.assertEqual(Desk.__module__, desk.__name__)
        self.assertEqual(list(inspect.signature(Desk).parameters), [])
        for name, arguments in METHODS.items():
            self.assertIn(name, vars(Desk))
            self.assertEqual(list(inspect.signature(getattr(Desk, name)).parameters), ["self"] + arguments)
