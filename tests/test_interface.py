"""The interface stands in the files under which the document lists it."""

import importlib
import inspect
import types
import unittest

FUNCTIONS = {
    "codes": {"compare_scalars": ("a", "b"), "code_of": ("element",)},
    "nodes": {"leaves_of": ("node",), "size_of": ("node",), "height_of": ("node",), "node_code": ("node",),
              "items_of": ("nodes",), "distinct_nodes": ("roots",)},
    "colors": {"coins_of": ("items",), "mix": ("a", "b"), "one_round": ("numbers",), "colors_of": ("items",)},
    "blocks": {"starts_of": ("colors",), "blocks_of": ("items",)},
    "trees": {"tree_of": ("contents",), "levels_of": ("contents",), "table_of": ("contents",)},
    "shapes": {"spans_of": ("contents",), "is_tree": ("node",), "fresh_nodes": ("contents", "bases")},
    "settling": {"settled_of": ("contents",), "settlements": ("contents",), "fixed_of": ("contents",)},
}
CLASSES = {"streams": {"Stream": ("__init__", "__len__", "rest", "feed")}}


class InterfaceTest(unittest.TestCase):
    def test_functions(self):
        for file, functions in FUNCTIONS.items():
            module = importlib.import_module("sameshape." + file)
            for name, parameters in functions.items():
                found = getattr(module, name)
                self.assertIsInstance(found, types.FunctionType)
                self.assertEqual(found.__module__, module.__name__)
                self.assertEqual(tuple(inspect.signature(found).parameters), parameters)

    def test_classes(self):
        for file, classes in CLASSES.items():
            module = importlib.import_module("sameshape." + file)
            for name, methods in classes.items():
                found = getattr(module, name)
                self.assertIsInstance(found, type)
                self.assertEqual(found.__module__, module.__name__)
                for method in methods:
                    self.assertIn(method, vars(found))
        self.assertIsInstance(vars(importlib.import_module("sameshape.streams").Stream)["rest"], property)


if __name__ == "__main__":
    unittest.main()
