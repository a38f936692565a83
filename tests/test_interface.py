"""The interface stands in the files under which the document lists it."""

import importlib
import inspect
import types
import unittest

FUNCTIONS = {
    "codes": {"compare_scalars": ("a", "b"), "code_of": ("element",)},
    "nodes": {"leaves_of": ("node",), "size_of": ("node",), "height_of": ("node",), "node_code": ("node",),
              "items_of": ("nodes",), "distinct_nodes": ("roots",)},
    "colors": {"coins_of": ("items",), "mix": ("a", "b"), "one_round": ("numbers",), "colors_of": ("items",)},
    "blocks": {"starts_of": ("colors",), "blocks_of": ("items",)},
    "trees": {"tree_of": ("contents",), "levels_of": ("contents",), "table_of": ("contents",)},
    "shapes": {"spans_of": ("contents",), "is_tree": ("node",), "fresh_nodes": ("contents", "bases")},
    "settling": {"settled_of": ("contents",), "settlements": ("contents",), "fixed_of": ("contents",)},
    "recipes": {"run_recipe": ("recipe", "bases"), "recipe_weight": ("recipe",)},
    "finding": {"find_recipe": ("contents", "bases"), "find_archive": ("many",)},
    "deltas": {"apply_delta": ("delta", "bases"), "find_delta": ("contents", "bases")},
    "sequences": {"part_of": ("contents", "start", "end"), "spliced": ("contents", "start", "count", "inserted"),
                  "repeated": ("contents", "times"), "joined": ("first", "second"),
                  "first_place": ("contents", "element", "start"), "places_of": ("contents", "pattern"),
                  "common_beginning": ("first", "second"), "common_end": ("first", "second")},
    "maps": {"map_of": ("entries",), "value_at": ("contents", "key"), "rank_of": ("contents", "key"),
             "entry_up_to": ("contents", "key"), "entry_from": ("contents", "key"),
             "with_entry": ("contents", "key", "value"), "without_key": ("contents", "key"),
             "between": ("contents", "start", "end"), "joined_maps": ("first", "second"),
             "common_keys": ("first", "second"), "other_keys": ("first", "second")},
    "changes": {"changes_between": ("first", "second"), "apply_changes": ("contents", "changes"),
                "inverted": ("changes",), "composed": ("first", "second")},
    "merges": {"conflicts_of": ("base", "ours", "theirs"), "merged": ("base", "ours", "theirs")},
    "queues": {"queue_of": ("items",), "many_up_to": ("contents", "priority"),
               "pushed": ("contents", "priority", "value"), "without_first": ("contents",),
               "without_up_to": ("contents", "priority"), "without_item": ("contents", "place"),
               "reprioritized": ("contents", "place", "priority"), "melded": ("first", "second")},
    "intervals": {"intervals_of": ("intervals",), "with_interval": ("contents", "start", "end"),
                  "without_interval": ("contents", "start", "end"), "shifted": ("contents", "by"),
                  "grown": ("contents", "before", "after"), "shrunk": ("contents", "before", "after"),
                  "united": ("first", "second"), "common_numbers": ("first", "second"),
                  "other_numbers": ("first", "second")},
    "gaps": {"contains": ("contents", "number"), "many_between": ("contents", "start", "end"),
             "next_number": ("contents", "number"), "next_gap": ("contents", "number"),
             "first_fit": ("contents", "size", "start", "end"), "gaps_of": ("contents", "start", "end")},
    "edits": {"apply_edits": ("contents", "edits"), "clashes": ("ours", "theirs"), "merged_edits": ("ours", "theirs")},
    "kinds": {"contents_of": ("kind", "rows"), "is_valid": ("kind", "contents")},
    "operations": {"derived": ("kind", "contents", "operation"), "combined": ("word", "kind", "first", "second")},
    "quotas": {"run_within": ("quota", "versions", "calls", "each")},
    "packs": {"pack_of": ("parts", "bases"), "unpacked": ("pack", "bases")},
    "wire": {"numbers_of": ("pack",), "read_pack": ("numbers",)},
    "ledgers": {"recover": ("numbers", "capacity")},
}
# The parameters that are passed by keyword, and what they are if they are left out.
BY_KEYWORD = {("run_recipe", "bases"): (), ("find_recipe", "bases"): (), ("run_within", "each"): 1000000,
              ("pack_of", "bases"): (), ("unpacked", "bases"): (), ("recover", "capacity"): 1000000,
              ("Store", "capacity"): 1000000, ("made_by", "bases"): (), ("Ledger", "capacity"): 1000000}
# The classes with the parameters of their methods, and their properties.
METHODS = {
    "streams": {"Stream": {"__init__": (), "__len__": (), "feed": ("contents",)}},
    "editors": {"Editor": {"__init__": ("contents",), "__len__": (), "__iter__": (),
                           "replace_range": ("start", "end", "inserted"), "undo": (), "redo": ()}},
    "stores": {"Store": {"__init__": ("capacity",), "__len__": (), "__iter__": (), "cost_of": ("contents",),
                         "make": ("kind", "rows"), "make_all": ("parts",), "made_by": ("recipe", "bases"),
                         "derive": ("version", "operation"), "combine": ("word", "version", "other"),
                         "merge": ("base", "ours", "theirs"), "let_go": ("version",), "tag": ("name", "version"),
                         "untag": ("name",), "checkout": ("name",)},
               "Version": {"__len__": (), "__iter__": (), "__getitem__": ("at",), "same_as": ("other",),
                           "shared_with": ("other",)}},
    "quotas": {"Quota": {"__init__": ("store", "most"), "__enter__": (), "__exit__": ("kind", "value", "trace")}},
    "links": {"Sender": {"__init__": (), "send": ("parts",)}, "Receiver": {"__init__": (), "receive": ("numbers",)}},
    "ledgers": {"Ledger": {"__init__": ("capacity",), "__len__": (), "version": ("number",), "make": ("kind", "rows"),
                           "derive": ("number", "operation"), "combine": ("word", "number", "other"),
                           "checkout": ("name",), "let_go": ("number",), "tag": ("name", "number"),
                           "untag": ("name",)}},
}
PROPERTIES = {
    "streams": {"Stream": ("rest",)},
    "editors": {"Editor": ("pieces", "contents", "edits")},
    "stores": {"Store": ("capacity", "node_count", "created_count", "freed_count", "tag_names", "held"),
               "Version": ("kind", "is_live", "contents", "node_count", "height")},
    "quotas": {"Quota": ("store", "most", "used")},
    "links": {"Sender": ("node_count",), "Receiver": ("node_count",)},
    "ledgers": {"Ledger": ("record", "store")},
}


def listed(table):
    """The module, and the name and the value of each entry that a table has for it."""
    for file, names in table.items():
        for name, value in names.items():
            yield importlib.import_module("sameshape." + file), name, value


class InterfaceTest(unittest.TestCase):
    def check_keywords(self, function, name, found):
        """Note which parameters are passed by keyword; the others have no default values."""
        for parameter in inspect.signature(function).parameters.values():
            if parameter.kind == parameter.KEYWORD_ONLY:
                found[name, parameter.name] = parameter.default
            else:
                self.assertEqual(parameter.kind, parameter.POSITIONAL_OR_KEYWORD)
                self.assertIs(parameter.default, parameter.empty)

    def test_functions(self):
        for module, name, parameters in listed(FUNCTIONS):
            found = getattr(module, name)
            self.assertIsInstance(found, types.FunctionType)
            self.assertEqual(found.__module__, module.__name__)
            self.assertEqual(tuple(inspect.signature(found).parameters), parameters)

    def test_classes(self):
        for module, name, methods in listed(METHODS):
            found = getattr(module, name)
            self.assertIsInstance(found, type)
            self.assertEqual(found.__module__, module.__name__)
            for method, parameters in methods.items():
                self.assertIsInstance(vars(found)[method], types.FunctionType)
                self.assertEqual(tuple(inspect.signature(vars(found)[method]).parameters)[1:], parameters)

    def test_properties(self):
        for module, name, properties in listed(PROPERTIES):
            for one in properties:
                self.assertIsInstance(vars(getattr(module, name))[one], property)

    def test_parameters_that_are_passed_by_keyword(self):
        found = {}
        for module, name, _ in listed(FUNCTIONS):
            self.check_keywords(getattr(module, name), name, found)
        for module, name, methods in listed(METHODS):
            for method in methods:
                self.check_keywords(vars(getattr(module, name))[method], name if method == "__init__" else method,
                                    found)
        self.assertEqual(found, BY_KEYWORD)


if __name__ == "__main__":
    unittest.main()
