"""The interface's introduction: each name is defined in the file under which the document lists it."""

import ast
import importlib
import inspect
import os
import unittest

import paidinparts

FOLDER = os.path.dirname(os.path.abspath(paidinparts.__file__))
# None of these reads a clock, random numbers or files.
MODULES = ["paidinparts", "heapq", "math", "itertools", "collections"]
ARGUMENTS = {
    ("plans", "Plan"): ["columns", "kinds", "checks"],
    ("runs", "is_run"): ["plan", "deeds"],
    ("runs", "totals"): ["plan", "run"],
    ("runs", "values_along"): ["plan", "run", "total"],
    ("standings", "open_states"): ["plan"],
    ("standings", "open_steps"): ["plan"],
    ("standings", "can_rise"): ["plan", "total"],
    ("standings", "run_to"): ["plan", "kind", "state"],
    ("wishes", "is_kept"): ["plan", "wish"],
    ("wishes", "multipliers"): ["plan", "wish"],
    ("wishes", "judge_multipliers"): ["plan", "wish", "told"],
    ("wishes", "broken"): ["plan", "wish"],
    ("wishes", "judge_broken"): ["plan", "wish", "told"],
    ("wishes", "unrolled"): ["told"],
    ("factors", "least_factor"): ["plan", "one", "other"],
    ("least", "least_checks"): ["plan", "wish", "offered"],
    ("least", "least_bars"): ["plan", "wish"],
    ("ready", "payments"): ["numbered", "checked"],
    ("books", "Book"): ["plan"],
    ("books", "SureBook"): ["plan", "wish"],
    ("texts", "show_sum"): ["plan", "total"],
    ("texts", "show_run"): ["deeds"],
    ("texts", "show_plan"): ["plan"],
    ("readings", "read_plan"): ["text"],
    ("readings", "read_run"): ["text"],
}
METHODS = {
    ("plans", "Plan", "value_at"): ["self", "kind", "state", "total"],
    ("plans", "Plan", "with_checks"): ["self", "checks"],
    ("plans", "Plan", "without_steps"): ["self", "bars"],
    ("plans", "Plan", "__eq__"): ["self", "other"],
    ("books", "Book", "new"): ["self", "kind", "amount"],
    ("books", "Book", "__call__"): ["self", "part", "name"],
    ("books", "Book", "able"): ["self", "part"],
    ("books", "Book", "write"): ["self", "deeds"],
    ("books", "Book", "undo"): ["self"],
    ("books", "Book", "__len__"): ["self"],
    ("books", "Book", "__eq__"): ["self", "other"],
    ("books", "SureBook", "__call__"): ["self", "part", "name"],
    ("books", "SureBook", "able"): ["self", "part"],
    ("books", "SureBook", "write"): ["self", "deeds"],
    ("books", "SureBook", "__eq__"): ["self", "other"],
}
PROPERTIES = {("plans", "Plan"): ["columns", "kinds", "checks"], ("books", "Book"): ["parts", "balance", "run"]}


def listed(place, name):
    """What a file of the package has under a name."""
    return getattr(importlib.import_module("paidinparts." + place), name)


class Interface(unittest.TestCase):
    def test_functions_and_classes(self):
        for (place, name), arguments in ARGUMENTS.items():
            found = listed(place, name)
            self.assertEqual(found.__module__, "paidinparts." + place)
            self.assertEqual(list(inspect.signature(found).parameters), arguments)

    def test_methods_stand_in_their_class(self):
        for (place, name, method), arguments in METHODS.items():
            found = vars(listed(place, name))[method]
            self.assertEqual(list(inspect.signature(found).parameters), arguments)

    def test_properties(self):
        for (place, name), told in PROPERTIES.items():
            for attribute in told:
                self.assertIsInstance(vars(listed(place, name))[attribute], property)

    def test_the_package_uses_no_clock_no_random_numbers_and_no_files(self):
        for name in sorted(os.listdir(FOLDER)):
            if not name.endswith(".py"):
                continue
            with open(os.path.join(FOLDER, name), encoding="ascii") as file:
                tree = ast.parse(file.read())
            for node in ast.walk(tree):
                self.assertNotIsInstance(node, ast.Import)
                if isinstance(node, ast.ImportFrom):
                    self.assertIn(node.module.split(".")[0], MODULES)
                if isinstance(node, ast.Name):
                    self.assertNotIn(node.id, ["open", "input", "print", "eval", "exec", "__import__"])


if __name__ == "__main__":
    unittest.main()
