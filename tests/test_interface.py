"""The interface's introduction: each name is defined in the file under which the document lists it."""

import ast
import importlib
import inspect
import os
import unittest

import paidinparts

FOLDER = os.path.dirname(os.path.abspath(paidinparts.__file__))
# None of these reads a clock, random numbers or files.
MODULES = ["paidinparts", "heapq", "math", "itertools", "collections"]
ARGUMENTS = {
    ("plans", "Plan"): ["columns", "kinds", "checks"],
    ("runs", "is_run"): ["plan", "deeds"],
    ("runs", "totals"): ["plan", "run"],
    ("runs", "values_along"): ["plan", "run", "total"],
    ("standings", "open_states"): ["plan"],
    ("standings", "open_steps"): ["plan"],
    ("standings", "can_rise"): ["plan", "total"],
    ("standings", "run_to"): ["plan", "kind", "state"],
    ("wishes", "is_kept"): ["plan", "wish"],
    ("wishes", "multipliers"): ["plan", "wish"],
    ("wishes", "judge_multipliers"): ["plan", "wish", "told"],
    ("wishes", "broken"): ["plan", "wish"],
    ("wishes", "judge_broken"): ["plan", "wish", "told"],
    ("wishes", "unrolled"): ["told"],
    ("factors", "least_factor"): ["plan", "one", "other"],
    ("least", "least_checks"): ["plan", "wish", "offered"],
    ("least", "least_bars"): ["plan", "wish"],
}
METHODS = {
    ("plans", "Plan", "value_at"): ["self", "kind", "state", "total"],
    ("plans", "Plan", "with_checks"): ["self", "checks"],
    ("plans", "Plan", "without_steps"): ["self", "bars"],
}


def listed(place, name):
    """What a file of the package has under a name."""
    return getattr(importlib.import_module("paidinparts." + place), name)


class Interface(unittest.TestCase):
    def test_functions_and_classes(self):
        for (place, name), arguments in ARGUMENTS.items():
            found = listed(place, name)
            self.assertEqual(found.__module__, "paidinparts." + place)
            self.assertEqual(list(inspect.signature(found).parameters), arguments)

    def test_methods_stand_in_their_class(self):
        for (place, name, method), arguments in METHODS.items():
            found = vars(listed(place, name))[method]
            self.assertEqual(list(inspect.signature(found).parameters), arguments)

    def test_the_package_uses_no_clock_no_random_numbers_and_no_files(self):
        for name in sorted(os.listdir(FOLDER)):
            if not name.endswith(".py"):
                continue
            with open(os.path.join(FOLDER, name), encoding="ascii") as file:
                tree = ast.parse(file.read())
            for node in ast.walk(tree):
                self.assertNotIsInstance(node, ast.Import)
                if isinstance(node, ast.ImportFrom):
                    self.assertIn(node.module.split(".")[0], MODULES)
                if isinstance(node, ast.Name):
                    self.assertNotIn(node.id, ["open", "input", "print", "eval", "exec", "__import__"])


if __name__ == "__main__":
    unittest.main()
