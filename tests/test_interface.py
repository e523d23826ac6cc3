"""The names, files and arguments of the interface."""

import importlib
import inspect
import unittest

FUNCTIONS = {
    "roomsday.cases": {"is_house": ["thing"], "are_cases": ["house", "thing"]},
    "roomsday.plans": {
        "is_plan": ["cases", "thing"],
        "leans": ["cases", "plan"],
        "told_day": ["cases", "plan", "minutes"],
        "is_smooth": ["cases", "plan"],
    },
    "roomsday.worst": {
        "latest": ["cases", "plan", "many"],
        "worst_day": ["cases", "plan", "many", "name"],
        "paper": ["cases", "plan", "many"],
        "is_paper": ["cases", "plan", "many", "thing"],
        "beyond": ["cases", "plan", "many", "hours"],
    },
}


class Interface(unittest.TestCase):
    def test_each_function_stands_in_its_file_with_its_arguments(self):
        for module, functions in FUNCTIONS.items():
            for name, arguments in functions.items():
                with self.subTest(f"{module}.{name}"):
                    function = getattr(importlib.import_module(module), name)
                    self.assertEqual(function.__module__, module)
                    self.assertEqual(list(inspect.signature(function).parameters), arguments)
                    for told in inspect.signature(function).parameters.values():
                        self.assertIs(told.default, inspect.Parameter.empty)
                        self.assertEqual(told.kind, inspect.Parameter.POSITIONAL_OR_KEYWORD)
