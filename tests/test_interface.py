"""The interface: each name in its own file, with its arguments."""

import importlib
import inspect
import unittest

FUNCTIONS = {
    "tracefold.rows": {"checked": ["rows"], "names_in": ["rows"]},
    "tracefold.plain": {
        "stepped": ["rows", "place", "names"],
        "plain": ["rows", "most"],
    },
    "tracefold.traces": {
        "written": ["rows", "start", "names", "most"],
        "round_of": ["trace", "names"],
    },
    "tracefold.known": {"known": ["trace"]},
    "tracefold.needed": {"needed": ["trace"]},
    "tracefold.folding": {
        "shortened": ["trace"],
        "folded": ["rows", "hot", "most"],
    },
}
CLASSES = {"tracefold.errors": ["FoldError", "NoRow", "NoPlace"]}


class Interface(unittest.TestCase):
    def test_functions_are_defined_in_their_files(self):
        for module_name, functions in FUNCTIONS.items():
            module = importlib.import_module(module_name)
            for name, arguments in functions.items():
                function = getattr(module, name)
                self.assertTrue(inspect.isfunction(function), name)
                self.assertEqual(function.__module__, module_name)
                self.assertEqual(list(inspect.signature(function).parameters), arguments)

    def test_classes_are_defined_in_their_files(self):
        for module_name, names in CLASSES.items():
            module = importlib.import_module(module_name)
            for name in names:
                found = getattr(module, name)
                self.assertTrue(inspect.isclass(found), name)
                self.assertEqual(found.__module__, module_name)


if __name__ == "__main__":
    unittest.main()
