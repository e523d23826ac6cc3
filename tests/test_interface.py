"""The names, files and arguments of the interface."""

import importlib
import inspect
import unittest

from tests.samples import CASES, HOUSE, PLAN

PLACED = inspect.Parameter.POSITIONAL_OR_KEYWORD
NAMED = inspect.Parameter.KEYWORD_ONLY
NO_DEFAULT = inspect.Parameter.empty

FUNCTIONS = {
    "roomsday.cases": {"is_house": ["thing"], "are_cases": ["house", "thing"]},
    "roomsday.plans": {
        "is_plan": ["cases", "thing"],
        "leans": ["cases", "plan"],
        "told_day": ["cases", "plan", "minutes"],
        "is_smooth": ["cases", "plan"],
    },
    "roomsday.worst": {
        "latest": ["cases", "plan", "many"],
        "worst_day": ["cases", "plan", "many", "name"],
        "paper": ["cases", "plan", "many"],
        "is_paper": ["cases", "plan", "many", "thing"],
        "beyond": ["cases", "plan", "many", "hours"],
    },
    "roomsday.makers": {
        "plan_by": ["cases", "order"],
        "best_plan": ["cases", "many"],
        "called_off": ["cases", "plan", "many", "minute"],
    },
    "roomsday.texts": {
        "house_text": ["house"],
        "cases_text": ["cases"],
        "plan_text": ["plan"],
        "read_house": ["text"],
        "read_cases": ["house", "text"],
        "read_plan": ["cases", "text"],
    },
}

MADE = [("house", PLACED, NO_DEFAULT), ("cases", PLACED, NO_DEFAULT), ("plan", PLACED, NO_DEFAULT), ("many", NAMED, 1)]
CLASSES = {
    ("roomsday.days", "Day"): {
        "__init__": MADE,
        "end": [("name", PLACED, NO_DEFAULT)],
        "pass_by": [("minutes", PLACED, 1)],
        "urgent": [("case", PLACED, NO_DEFAULT), ("within", NAMED, 30)],
        "off": [("name", PLACED, NO_DEFAULT)],
        "lot": [("deeds", PLACED, NO_DEFAULT)],
        "back": [], "minute": [], "over": [], "plan": [], "cases": [], "states": [], "bounds": [], "__len__": [],
    },
    ("roomsday.desk", "Desk"): {"__init__": MADE, "say": [("row", PLACED, NO_DEFAULT)]},
}


class Interface(unittest.TestCase):
    def test_each_function_stands_in_its_file_with_its_arguments(self):
        for module, functions in FUNCTIONS.items():
            for name, arguments in functions.items():
                with self.subTest(f"{module}.{name}"):
                    function = getattr(importlib.import_module(module), name)
                    self.assertEqual(function.__module__, module)
                    self.assertEqual(list(inspect.signature(function).parameters), arguments)
                    for told in inspect.signature(function).parameters.values():
                        self.assertIs(told.default, inspect.Parameter.empty)
                        self.assertEqual(told.kind, inspect.Parameter.POSITIONAL_OR_KEYWORD)

    def test_each_class_stands_in_its_file_with_its_methods(self):
        for (module, name), methods in CLASSES.items():
            made = getattr(importlib.import_module(module), name)
            self.assertEqual(made.__module__, module)
            for method, arguments in methods.items():
                with self.subTest(f"{name}.{method}"):
                    # In the class itself, not in one above it.
                    told = list(inspect.signature(made.__dict__[method]).parameters.values())[1:]
                    self.assertEqual([(one.name, one.kind, one.default) for one in told], arguments)

    def test_a_day_by_places_and_by_names(self):
        from roomsday.days import Day
        one, other = Day(HOUSE, CASES, PLAN), Day(plan=PLAN, many=1, house=HOUSE, cases=CASES)
        one.pass_by(11), other.pass_by(minutes=11)
        one.end("eye"), other.end(name="eye")
        one.off("knee"), other.off(name="knee")
        self.assertEqual(one.urgent(CASES[4]), other.urgent(within=30, case=CASES[4]))
        self.assertEqual(one.lot([("pass", 3)]), other.lot(deeds=[("pass", 3)]))
        self.assertEqual(one, other)
        self.assertIs(one.busy, False)

    def test_a_desk_by_places_and_by_names(self):
        from roomsday.desk import Desk
        from roomsday.texts import cases_text, house_text, plan_text
        house, cases, plan = house_text(house=HOUSE), cases_text(cases=CASES), plan_text(plan=PLAN)
        one, other = Desk(house, cases, plan, many=2), Desk(many=2, plan=plan, cases=cases, house=house)
        for row in ("pass 3", "bounds", "states"):
            self.assertEqual(one.say(row), other.say(row=row))
