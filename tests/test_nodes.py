import unittest

from sameshape.nodes import distinct_nodes, height_of, items_of, leaves_of, node_code, size_of
from sameshape.trees import tree_of
from tests import model
from tests.samples import LARGE, any_nodes, deep_node
from tests.support import RowCase

ONE = ("leaf", 1)
TWO = ("leaf", 2)
SEVEN = ("leaf", 7)
NODES = any_nodes(150, 4, 11)
DEEP = deep_node("end")


class BelowTest(RowCase):
    def test_the_examples(self):
        self.assert_result(("a", 7, 7, 7), leaves_of, ("block", (("leaf", "a"), ("run", SEVEN, 3))))
        self.assert_result(2, height_of, ("block", (ONE, ("block", (TWO, ("leaf", 3))))))

    def test_leaves(self):
        for element in (0, "", ("a", 1)):
            self.assert_result((element,), leaves_of, ("leaf", element))
            self.assert_result(1, size_of, ("leaf", element))
            self.assert_result(0, height_of, ("leaf", element))

    def test_runs(self):
        self.assert_result((7, 7), leaves_of, ("run", SEVEN, 2))
        self.assert_result((7,) * 2000, leaves_of, ("run", SEVEN, 2000))
        self.assert_result(2000, size_of, ("run", SEVEN, 2000))
        self.assert_result(0, height_of, ("run", SEVEN, 2000))
        node = ("run", ("block", (ONE, ("run", TWO, 2))), 3)
        self.assert_result((1, 2, 2, 1, 2, 2, 1, 2, 2), leaves_of, node)
        self.assert_result(9, size_of, node)
        self.assert_result(1, height_of, node)

    def test_blocks(self):
        self.assert_result((1,), leaves_of, ("block", (ONE,)))
        self.assert_result(1, size_of, ("block", (ONE,)))
        self.assert_result(1, height_of, ("block", (ONE,)))
        twelve = ("block", tuple(("leaf", place) for place in range(12)))
        self.assert_result(tuple(range(12)), leaves_of, twelve)
        self.assert_result(12, size_of, twelve)
        self.assert_result(1, height_of, twelve)

    def test_the_highest_child_counts(self):
        low = ("block", (ONE,))
        high = ("block", (("run", ("block", (low, TWO)), 2),))
        self.assert_result(3, height_of, high)
        for row in ((high, low, ONE), (low, high, ONE), (ONE, low, high)):
            self.assert_result(4, height_of, ("block", row))

    def test_a_node_of_the_greatest_size_and_height(self):
        self.assert_result(tuple(range(1999)) + ("end",), leaves_of, DEEP)
        self.assert_result(2000, size_of, DEEP)
        self.assert_result(12, height_of, DEEP)

    def test_any_nodes(self):
        for node in NODES:
            self.assert_result(tuple(model.leaves(node)), leaves_of, node)
            self.assert_result(len(model.leaves(node)), size_of, node)
            self.assert_result(model.height(node), height_of, node)


class NodeCodeTest(RowCase):
    def test_the_examples(self):
        self.assert_result((5, 0, 3, 1, 0, 0, 0, 7), node_code, ("run", SEVEN, 3))
        self.assert_result((6, 2, 3, 1, 97, 3, 1, 98), node_code, ("block", (("leaf", "a"), ("leaf", "b"))))

    def test_each_form(self):
        self.assert_result((3, 0), node_code, ("leaf", ""))
        self.assert_result((4, 3, 1, 120, 1, 0, 0, 0, 5), node_code, ("leaf", ("x", 5)))
        self.assert_result((5, 0, 2, 3, 0), node_code, ("run", ("leaf", ""), 2))
        self.assert_result((5, 0, 2000, 3, 0), node_code, ("run", ("leaf", ""), 2000))
        self.assert_result((6, 1, 3, 0), node_code, ("block", (("leaf", ""),)))
        self.assert_result((6, 12) + (3, 0) * 12, node_code, ("block", (("leaf", ""),) * 12))
        self.assert_result((5, 0, 4, 6, 2, 3, 0, 5, 0, 2, 3, 0), node_code,
                           ("run", ("block", (("leaf", ""), ("run", ("leaf", ""), 2))), 4))

    def test_any_nodes(self):
        for node in NODES + (DEEP,):
            self.assert_result(tuple(model.node_code(node)), node_code, node)


class ItemsTest(RowCase):
    def test_the_examples(self):
        x, y = ("leaf", "x"), ("leaf", "y")
        self.assert_result((("run", x, 3), y, ("run", x, 2)), items_of, (x, x, x, y, x, x))
        self.assert_result((("run", ONE, 2), TWO), items_of, (ONE, ONE, TWO))

    def test_short_rows(self):
        self.assert_result((), items_of, ())
        self.assert_result((ONE,), items_of, (ONE,))
        self.assert_result((("run", ONE, 2),), items_of, (ONE, ONE))
        self.assert_result((ONE, TWO), items_of, (ONE, TWO))
        self.assert_result((TWO, ("run", ONE, 2)), items_of, (TWO, ONE, ONE))

    def test_blocks(self):
        block, other = ("block", (ONE, TWO)), ("block", (TWO, ONE))
        again = ("block", (("leaf", 1), ("leaf", 2)))
        self.assert_result((("run", block, 2), other, block), items_of, (block, again, other, block))

    def test_what_is_nearly_equal_is_not(self):
        row = (("leaf", 1), ("leaf", "1"), ("leaf", (1, 1)), ("block", (ONE,)), ONE, ("block", (("block", (ONE,)),)))
        self.assert_result(row, items_of, row)

    def test_rows_of_2000_nodes(self):
        self.assert_result((("run", ONE, 2000),), items_of, (ONE,) * 2000)
        different = tuple(("leaf", place) for place in range(2000))
        self.assert_result(different, items_of, different)
        pairs = tuple(("leaf", place // 2) for place in range(2000))
        self.assert_result(tuple(("run", ("leaf", place), 2) for place in range(1000)), items_of, pairs)
        self.assert_result((("run", DEEP, 1999), ONE), items_of, (DEEP,) * 1999 + (ONE,))
        self.assert_result((DEEP, deep_node("other"), ("run", DEEP, 2)), items_of,
                           (DEEP, deep_node("other"), DEEP, deep_node("end")))


class DistinctTest(RowCase):
    def test_the_examples(self):
        block = ("block", (ONE, TWO, ONE))
        self.assert_result((ONE, TWO, block), distinct_nodes, (block,))

    def test_no_roots_and_one(self):
        self.assert_result((), distinct_nodes, ())
        self.assert_result((ONE,), distinct_nodes, (ONE,))
        self.assert_result((SEVEN, ("run", SEVEN, 3)), distinct_nodes, (("run", SEVEN, 3),))

    def test_a_root_that_is_given_twice(self):
        self.assert_result((ONE,), distinct_nodes, (ONE, ONE))
        block = ("block", (ONE, TWO))
        self.assert_result((ONE, TWO, block), distinct_nodes, (block, ("block", (ONE, TWO))))

    def test_nodes_in_several_places_and_trees(self):
        low = ("block", (TWO, ONE))
        run = ("run", low, 2)
        first = ("block", (ONE, run, low))
        second = ("block", (("run", ONE, 2), SEVEN, low))
        self.assert_result((ONE, TWO, low, run, first, ("run", ONE, 2), SEVEN, second),
                           distinct_nodes, (first, second, low))
        self.assert_result((TWO, ONE, low, ("run", ONE, 2), SEVEN, second, run, first),
                           distinct_nodes, (low, second, first))

    def test_runs_of_one_child(self):
        two, three = ("run", ONE, 2), ("run", ONE, 3)
        block = ("block", (two, three, two, ("run", TWO, 2)))
        self.assert_result((ONE, two, three, TWO, ("run", TWO, 2), block), distinct_nodes, (block,))

    def test_what_is_nearly_equal_is_not(self):
        block = ("block", (ONE, ("leaf", "1"), ("block", (ONE,)), ("block", (("block", (ONE,)),))))
        self.assert_result((ONE, ("leaf", "1"), ("block", (ONE,)), ("block", (("block", (ONE,)),)), block),
                           distinct_nodes, (block,))

    def test_any_nodes(self):
        for start in range(0, len(NODES), 5):
            roots = NODES[start:start + 5]
            self.assert_result(tuple(model.distinct(roots)), distinct_nodes, roots)

    def test_40_roots(self):
        roots = NODES[:39] + (NODES[3],)
        self.assert_result(tuple(model.distinct(roots)), distinct_nodes, roots)

    def test_40_large_roots(self):
        contents = LARGE["all different"]
        roots = [tree_of(contents[start:] + contents[:start]) for start in range(0, 2000, 53)][:38]
        found = distinct_nodes(tuple(roots) + (deep_node(1), deep_node(1)))
        self.assertEqual(len(found), len(set(found)))
        self.assertEqual(found[:3], (("leaf", 0), ("leaf", 1), ("leaf", 2)))
        self.assertEqual([node for node in found if node[0] == "leaf"], [("leaf", place) for place in range(2000)])
        self.assertEqual(found[-1], deep_node(1))
        places = {node: place for place, node in enumerate(found)}
        for node in found:
            for child in node[1] if node[0] == "block" else ():
                self.assertLess(places[child], places[node])


if __name__ == "__main__":
    unittest.main()
