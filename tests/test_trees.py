import unittest

from sameshape.nodes import distinct_nodes, height_of, leaves_of
from sameshape.trees import levels_of, table_of, tree_of
from tests import model
from tests.samples import LARGE, SMALL
from tests.support import RowCase

WORDS = ("to", "be", "or", "not", "to", "be")


def leaf_block(*contents):
    return ("block", tuple(("leaf", element) for element in contents))


class TreeTest(RowCase):
    def test_the_examples(self):
        self.assert_result(("run", ("leaf", 7), 3), tree_of, (7, 7, 7))
        root = ("block", (leaf_block(1, 2), leaf_block(3, 4), leaf_block(5, 6)))
        self.assert_result(root, tree_of, (1, 2, 3, 4, 5, 6))
        self.assertEqual(len(distinct_nodes((root,))), 10)
        self.assertEqual(height_of(root), 2)

    def test_no_elements_and_one(self):
        self.assertIsNone(tree_of(()))
        self.assert_result(("leaf", ""), tree_of, ("",))
        self.assert_result(("leaf", ("a", 1)), tree_of, (("a", 1),))

    def test_a_root_that_is_a_run(self):
        for many in (2, 3, 2000):
            self.assert_result(("run", ("leaf", "a"), many), tree_of, ("a",) * many)

    def test_a_root_that_is_a_run_of_blocks(self):
        block = ("block", (("leaf", "x"), ("run", ("leaf", "y"), 3)))
        for many in (2, 9, 500):
            self.assert_result(("run", block, many), tree_of, ("x", "y", "y", "y") * many)

    def test_runs_below_blocks(self):
        root = ("block", (("block", (("run", ("leaf", 1), 2), ("leaf", 2))),
                          ("block", (("run", ("leaf", 3), 2), ("leaf", 4))), leaf_block(5, 6)))
        self.assert_result(root, tree_of, (1, 1, 2, 3, 3, 4, 5, 6))

    def test_small_contents(self):
        for name, contents in SMALL.items():
            with self.subTest(name):
                self.assert_result(model.tree(contents), tree_of, contents)

    def test_2000_elements(self):
        for name, contents in LARGE.items():
            with self.subTest(name):
                root = tree_of(contents)
                self.assert_rows(root)
                self.assertEqual(leaves_of(root), contents)
                self.assertLessEqual(height_of(root), 12)
        contents = LARGE["stretches"]
        self.assert_result(model.tree(contents), tree_of, contents)


class LevelsTest(RowCase):
    def test_the_examples(self):
        self.assert_result(((6, (1, 1, 1, 1, 1, 1), (1, 0, 1, 0, 1, 4), (0, 2)), (2, (1, 1), (0, 1), (0,)),
                            (1, (1,), (0,), (0,))), levels_of, WORDS)
        self.assert_result(((3, (3,), (1,), (0,)),), levels_of, (7, 7, 7))
        self.assert_result(((6, (1,) * 6, (1, 0, 1, 0, 1, 0), (0, 2, 4)), (3, (1, 1, 1), (0, 1, 0), (0,)),
                            (1, (1,), (0,), (0,))), levels_of, (1, 2, 3, 4, 5, 6))

    def test_no_elements_and_one(self):
        self.assert_result((), levels_of, ())
        self.assert_result(((1, (1,), (1,), (0,)),), levels_of, (5,))
        self.assert_result(((1, (1,), (0,), (0,)),), levels_of, (-5,))

    def test_the_last_level_is_a_run_of_blocks(self):
        self.assert_result(((8, (1, 3, 1, 3), (1, 0, 1, 0), (0, 2)), (2, (2,), (1,), (0,))),
                           levels_of, ("x", "y", "y", "y") * 2)

    def test_small_contents(self):
        for name, contents in SMALL.items():
            with self.subTest(name):
                expected = tuple(model.report(level) for level in model.levels(contents))
                self.assert_result(expected, levels_of, contents)

    def test_2000_elements(self):
        self.assert_result(((2000, (2000,), (1,), (0,)),), levels_of, (7,) * 2000)
        for name in ("all different", "a part that is repeated"):
            contents = LARGE[name]
            expected = tuple(model.report(level) for level in model.levels(contents))
            self.assert_result(expected, levels_of, contents)


class TableTest(RowCase):
    def test_the_examples(self):
        self.assert_result((("leaf", "to"), ("leaf", "be"), ("block", (0, 1)), ("leaf", "or"), ("leaf", "not"),
                            ("block", (3, 4, 0, 1)), ("block", (2, 5))), table_of, WORDS)
        self.assert_result((("leaf", 7), ("run", 0, 3)), table_of, (7, 7, 7))

    def test_no_elements_and_one(self):
        self.assert_result((), table_of, ())
        self.assert_result((("leaf", ("a", 1)),), table_of, (("a", 1),))

    def test_integers_beside_strings(self):
        self.assert_result((("leaf", 1), ("leaf", "1"), ("block", (0, 1))), table_of, (1, "1"))

    def test_small_contents(self):
        for name, contents in SMALL.items():
            with self.subTest(name):
                self.assert_result(model.table(contents), table_of, contents)

    def test_2000_elements(self):
        for name in ("all equal", "two values"):
            self.assert_result(model.table(LARGE[name]), table_of, LARGE[name])
        for name, contents in LARGE.items():
            with self.subTest(name):
                found = table_of(contents)
                self.assert_rows(found)
                self.assertEqual(len(set(found)), len(found))
                self.assertEqual(self.root_of(found), tree_of(contents))

    def root_of(self, table):
        """The node of the last entry of a table."""
        nodes = []
        for entry in table:
            if entry[0] == "run":
                entry = ("run", nodes[entry[1]], entry[2])
            elif entry[0] == "block":
                entry = ("block", tuple(nodes[child] for child in entry[1]))
            nodes.append(entry)
        return nodes[-1]


if __name__ == "__main__":
    unittest.main()
