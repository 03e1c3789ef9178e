"""The interface: each name is defined in its file, with its arguments: DOC.md, The interface."""

import importlib
import inspect
import unittest

FUNCTIONS = {
    "waybook.keys": {"less": ["one", "other"], "below": ["rows", "key"]},
    "waybook.wishes": {"fits": ["row", "wish"], "merged": ["wish"]},
}
CLASSES = {
    ("waybook.orders", "Kept"): {
        "__init__": ["columns"], "put": ["number", "row"], "drop": ["number", "row"], "numbers": [],
        "stretch": ["wish"], "covers": ["wish"],
    },
    ("waybook.table", "Table"): {
        "__init__": ["width"], "put": ["row"], "drop": ["number"], "change": ["number", "column", "value"],
        "row": ["number"], "numbers": [], "tell": ["order"], "forget": ["order"], "orders": [], "listed": ["order"],
        "costs": ["wish"], "plan": ["wish"], "walked": ["way", "wish"], "ask_by": ["way", "wish"], "ask": ["wish"],
    },
}


class Interface(unittest.TestCase):
    def test_functions(self):
        for module, functions in FUNCTIONS.items():
            for name, arguments in functions.items():
                with self.subTest(module=module, name=name):
                    found = getattr(importlib.import_module(module), name)
                    self.assertTrue(inspect.isfunction(found))
                    self.assertEqual(found.__module__, module)
                    self.assertEqual(list(inspect.signature(found).parameters), arguments)

    def test_classes_and_the_methods_in_their_bodies(self):
        for (module, name), methods in CLASSES.items():
            found = getattr(importlib.import_module(module), name)
            self.assertTrue(inspect.isclass(found))
            self.assertEqual(found.__module__, module)
            for method, arguments in methods.items():
                with self.subTest(name=name, method=method):
                    self.assertTrue(inspect.isfunction(vars(found).get(method)))
                    self.assertEqual(list(inspect.signature(vars(found)[method]).parameters), ["self"] + arguments)


if __name__ == "__main__":
    unittest.main()
