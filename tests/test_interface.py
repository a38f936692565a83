"""The interface stands in the files under which the document lists it."""

import importlib
import inspect
import types
import unittest

FUNCTIONS = {
    "codes": {"compare_scalars": ("a", "b"), "code_of": ("element",)},
    "nodes": {"leaves_of": ("node",), "size_of": ("node",), "height_of": ("node",), "node_code": ("node",),
              "items_of": ("nodes",), "distinct_nodes": ("roots",)},
    "colors": {"coins_of": ("items",), "mix": ("a", "b"), "one_round": ("numbers",), "colors_of": ("items",)},
    "blocks": {"starts_of": ("colors",), "blocks_of": ("items",)},
    "trees": {"tree_of": ("contents",), "levels_of": ("contents",), "table_of": ("contents",)},
    "shapes": {"spans_of": ("contents",), "is_tree": ("node",), "fresh_nodes": ("contents", "bases")},
    "settling": {"settled_of": ("contents",), "settlements": ("contents",), "fixed_of": ("contents",)},
    "recipes": {"run_recipe": ("recipe", "bases"), "recipe_weight": ("recipe",)},
    "finding": {"find_recipe": ("contents", "bases"), "find_archive": ("many",)},
    "deltas": {"apply_delta": ("delta", "bases"), "find_delta": ("contents", "bases")},
    "sequences": {"part_of": ("contents", "start", "end"), "spliced": ("contents", "start", "count", "inserted"),
                  "repeated": ("contents", "times"), "joined": ("first", "second"),
                  "first_place": ("contents", "element", "start"), "places_of": ("contents", "pattern"),
                  "common_beginning": ("first", "second"), "common_end": ("first", "second")},
    "maps": {"map_of": ("entries",), "value_at": ("contents", "key"), "rank_of": ("contents", "key"),
             "entry_up_to": ("contents", "key"), "entry_from": ("contents", "key"),
             "with_entry": ("contents", "key", "value"), "without_key": ("contents", "key"),
             "between": ("contents", "start", "end"), "joined_maps": ("first", "second"),
             "common_keys": ("first", "second"), "other_keys": ("first", "second")},
    "changes": {"changes_between": ("first", "second"), "apply_changes": ("contents", "changes"),
                "inverted": ("changes",), "composed": ("first", "second")},
    "merges": {"conflicts_of": ("base", "ours", "theirs"), "merged": ("base", "ours", "theirs")},
    "queues": {"queue_of": ("items",), "many_up_to": ("contents", "priority"),
               "pushed": ("contents", "priority", "value"), "without_first": ("contents",),
               "without_up_to": ("contents", "priority"), "without_item": ("contents", "place"),
               "reprioritized": ("contents", "place", "priority"), "melded": ("first", "second")},
    "intervals": {"intervals_of": ("intervals",), "with_interval": ("contents", "start", "end"),
                  "without_interval": ("contents", "start", "end"), "shifted": ("contents", "by"),
                  "grown": ("contents", "before", "after"), "shrunk": ("contents", "before", "after"),
                  "united": ("first", "second"), "common_numbers": ("first", "second"),
                  "other_numbers": ("first", "second")},
    "gaps": {"contains": ("contents", "number"), "many_between": ("contents", "start", "end"),
             "next_number": ("contents", "number"), "next_gap": ("contents", "number"),
             "first_fit": ("contents", "size", "start", "end"), "gaps_of": ("contents", "start", "end")},
}
# The parameters that are passed by keyword, and what they are if they are left out.
BY_KEYWORD = {("run_recipe", "bases"): (), ("find_recipe", "bases"): ()}
CLASSES = {"streams": {"Stream": ("__init__", "__len__", "rest", "feed")}}


class InterfaceTest(unittest.TestCase):
    def test_functions(self):
        for file, functions in FUNCTIONS.items():
            module = importlib.import_module("sameshape." + file)
            for name, parameters in functions.items():
                found = getattr(module, name)
                self.assertIsInstance(found, types.FunctionType)
                self.assertEqual(found.__module__, module.__name__)
                self.assertEqual(tuple(inspect.signature(found).parameters), parameters)

    def test_parameters_that_are_passed_by_keyword(self):
        found = {}
        for file, functions in FUNCTIONS.items():
            for name in functions:
                function = getattr(importlib.import_module("sameshape." + file), name)
                for parameter in inspect.signature(function).parameters.values():
                    if parameter.kind == parameter.KEYWORD_ONLY:
                        found[name, parameter.name] = parameter.default
                    else:
                        self.assertEqual(parameter.kind, parameter.POSITIONAL_OR_KEYWORD)
                        self.assertIs(parameter.default, parameter.empty)
        self.assertEqual(found, BY_KEYWORD)

    def test_classes(self):
        for file, classes in CLASSES.items():
            module = importlib.import_module("sameshape." + file)
            for name, methods in classes.items():
                found = getattr(module, name)
                self.assertIsInstance(found, type)
                self.assertEqual(found.__module__, module.__name__)
                for method in methods:
                    self.assertIn(method, vars(found))
        self.assertIsInstance(vars(importlib.import_module("sameshape.streams").Stream)["rest"], property)


if __name__ == "__main__":
    unittest.main()
