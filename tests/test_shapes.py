import unittest

from sameshape.nodes import distinct_nodes, leaves_of
from sameshape.shapes import fresh_nodes, is_tree, spans_of
from sameshape.trees import tree_of
from tests import model
from tests.samples import LARGE, SMALL, any_nodes, deep_node
from tests.support import RowCase

ONE = ("leaf", 1)
TWO = ("leaf", 2)


def leaf_block(*contents):
    return ("block", tuple(("leaf", element) for element in contents))


class SpansTest(RowCase):
    def test_the_examples(self):
        contents = (1, 1, 2, 3, 3, 4, 5, 6)
        leaf_spans = ((0, 1), (1, 2), (2, 3), (3, 4), (4, 5), (5, 6), (6, 7), (7, 8))
        self.assert_result((leaf_spans, ((0, 3), (3, 6), (6, 8)), ((0, 8),)), spans_of, contents)

    def test_no_elements_one_and_equal_ones(self):
        self.assert_result((), spans_of, ())
        self.assert_result((((0, 1),),), spans_of, (5,))
        self.assert_result((((0, 1), (1, 2), (2, 3)),), spans_of, (7, 7, 7))
        self.assert_result((tuple((place, place + 1) for place in range(2000)),), spans_of, (7,) * 2000)

    def test_a_root_that_is_a_run_of_blocks(self):
        leaf_spans = tuple((place, place + 1) for place in range(8))
        self.assert_result((leaf_spans, ((0, 4), (4, 8))), spans_of, ("x", "y", "y", "y") * 2)

    def test_contents(self):
        for name, contents in list(SMALL.items()) + list(LARGE.items()):
            with self.subTest(name):
                expected = tuple(tuple((start, end) for _, start, end in level) for level in model.levels(contents))
                self.assert_result(expected, spans_of, contents)


class IsTreeTest(RowCase):
    def check(self, expected, node):
        before = repr(node)
        self.assertIs(is_tree(node), expected, node)
        self.assertEqual(repr(node), before)

    def test_the_examples(self):
        self.check(False, ("block", (ONE, ONE)))

    def test_trees_of_contents(self):
        for contents in list(SMALL.values()) + list(LARGE.values()):
            if contents:
                self.check(True, tree_of(contents))

    def test_a_child_in_the_block_of_its_neighbor(self):
        self.check(True, ("block", (leaf_block(1, 2), leaf_block(3, 4), leaf_block(5, 6))))
        self.check(False, ("block", (leaf_block(1, 2, 3), leaf_block(4), leaf_block(5, 6))))
        self.check(False, ("block", (leaf_block(1), leaf_block(2, 3, 4), leaf_block(5, 6))))
        self.check(False, ("block", (leaf_block(1, 2), leaf_block(3, 4, 5, 6))))
        self.check(False, leaf_block(1, 2, 3, 4, 5, 6))

    def test_a_block_around_a_node(self):
        self.check(True, ONE)
        self.check(False, ("block", (ONE,)))
        self.check(True, leaf_block(1, 2))
        self.check(False, ("block", (leaf_block(1, 2),)))
        self.check(False, ("block", (("block", (ONE,)), TWO)))
        self.check(False, ("block", (("run", ONE, 2),)))

    def test_a_run_around_a_node(self):
        self.check(True, ("run", ONE, 2))
        self.check(True, ("run", ONE, 2000))
        self.check(False, ("run", leaf_block(1, 1), 2))
        self.check(False, ("run", ("block", (("run", ONE, 2),)), 2))
        block = ("block", (("leaf", "x"), ("run", ("leaf", "y"), 3)))
        self.check(True, ("run", block, 2))
        self.check(True, ("run", block, 500))
        self.check(True, ("run", leaf_block("y", "x"), 2))
        self.check(False, ("run", leaf_block("x", "y"), 2))
        self.check(False, ("run", leaf_block(1, 2, 3), 2))

    def test_neighbors_that_should_have_been_a_run(self):
        self.check(True, ("block", (("run", ONE, 2), TWO)))
        self.check(False, leaf_block(1, 1, 2))
        self.check(False, ("block", (("run", ONE, 2), ONE, TWO)))
        self.check(False, ("block", (("run", ONE, 2), ("run", ONE, 2))))
        block = ("block", (("leaf", "x"), ("run", ("leaf", "y"), 3)))
        self.check(False, ("block", (block, block)))

    def test_children_of_different_heights(self):
        self.check(False, ("block", (leaf_block(1, 2), ("leaf", 3))))
        self.check(False, ("block", (ONE, leaf_block(2, 3))))
        self.check(False, ("block", (leaf_block(1, 2), leaf_block(3, 4), ("leaf", 5), ("leaf", 6))))

    def test_any_nodes(self):
        found = []
        for node in any_nodes(300, 3, 17):
            expected = node == model.tree(tuple(model.leaves(node)))
            self.check(expected, node)
            found.append(expected)
        self.assertEqual(set(found), {True, False})

    def test_a_node_of_the_greatest_size_and_height(self):
        self.check(False, deep_node("end"))


class FreshTest(RowCase):
    base = (1, 2, 3, 4, 5, 6)

    def test_the_examples(self):
        low = leaf_block(7, 4)
        root = ("block", (leaf_block(1, 2), low, leaf_block(5, 6)))
        self.assert_result((("leaf", 7), low, root), fresh_nodes, (1, 2, 7, 4, 5, 6), (self.base,))

    def test_no_bases(self):
        for contents in SMALL.values():
            expected = tuple(model.distinct([model.tree(contents)])) if contents else ()
            self.assert_result(expected, fresh_nodes, contents, ())

    def test_no_elements(self):
        self.assert_result((), fresh_nodes, (), ())
        self.assert_result((), fresh_nodes, (), (self.base, ()))

    def test_an_empty_base(self):
        self.assert_result((ONE, TWO, leaf_block(1, 2)), fresh_nodes, (1, 2), ((),))
        self.assert_result((TWO, leaf_block(1, 2)), fresh_nodes, (1, 2), ((), (1,), ()))

    def test_a_base_that_is_equal_to_the_contents(self):
        for contents in SMALL.values():
            self.assert_result((), fresh_nodes, contents, ((5, 6), tuple(list(contents)), (7,)))

    def test_only_nodes_that_occur_themselves_count(self):
        self.assert_result((leaf_block(2, 3),), fresh_nodes, (2, 3), (self.base,))
        self.assert_result((("run", ONE, 2),), fresh_nodes, (1, 1), ((1, 1, 1), (1,)))

    def test_several_bases(self):
        bases = (SMALL["two values"], SMALL["ascending"], SMALL["ascending"], SMALL["scattered"], SMALL["mixed"],
                 SMALL["none"], SMALL["stretches"], SMALL["a part that is repeated"])
        known = model.distinct([model.tree(base) for base in bases if base])
        for contents in SMALL.values():
            nodes = model.distinct([model.tree(contents)]) if contents else []
            self.assert_result(tuple(node for node in nodes if node not in known), fresh_nodes, contents, bases)

    def test_2000_elements(self):
        contents = LARGE["all different"]
        changed = contents[:1000] + (-1,) + contents[1001:]
        found = fresh_nodes(changed, (contents,))
        self.assert_rows(found)
        self.assertEqual(found[0], ("leaf", -1))
        self.assertEqual(found[-1], tree_of(changed))
        self.assertLess(len(found), 30)
        known = set(distinct_nodes((tree_of(contents),)))
        expected = tuple(node for node in distinct_nodes((tree_of(changed),)) if node not in known)
        self.assertEqual(found, expected)
        bases = tuple(LARGE.values()) + (changed[::-1], changed)
        self.assert_result((), fresh_nodes, changed, bases)


if __name__ == "__main__":
    unittest.main()
