import itertools
import random
import unittest

from sameshape.blocks import blocks_of, starts_of
from sameshape.nodes import items_of
from tests import model
from tests.samples import LARGE, SMALL, any_nodes
from tests.support import RowCase


def leaf_row(contents):
    return tuple(("leaf", element) for element in contents)


class StartsTest(RowCase):
    def test_the_examples(self):
        self.assert_result((0, 4), starts_of, (1, 5, 0, 1, 5, 0, 1, 4))
        self.assert_result((0, 2, 4), starts_of, (1, 0, 1, 0, 1, 0))
        self.assert_result((0,), starts_of, (0, 1, 0))

    def test_short_rows(self):
        self.assert_result((), starts_of, ())
        for color in range(6):
            self.assert_result((0,), starts_of, (color,))
        self.assert_result((0,), starts_of, (0, 5))
        self.assert_result((0,), starts_of, (5, 0))

    def test_no_start_at_position_1(self):
        self.assert_result((0,), starts_of, (0, 5, 0, 1))
        self.assert_result((0, 3), starts_of, (0, 5, 0, 5, 0))

    def test_no_start_at_the_last_position(self):
        self.assert_result((0,), starts_of, (3, 2, 1, 5))
        self.assert_result((0, 2), starts_of, (3, 2, 5, 1))
        self.assert_result((0, 2), starts_of, (1, 0, 1, 0, 1))

    def test_equal_neighbors(self):
        self.assert_result((0,), starts_of, (0, 0, 5, 5, 0, 0))
        self.assert_result((0,), starts_of, (1, 1, 1, 1))
        self.assert_result((0, 3), starts_of, (4, 4, 2, 3, 2, 2))
        self.assert_result((0,), starts_of, (0, 1, 2, 2, 1))
        self.assert_result((0,), starts_of, (0, 0, 1, 1, 0))

    def test_all_short_rows(self):
        for many in range(7):
            for row in itertools.product(range(3), repeat=many):
                self.assert_result(tuple(model.starts(row)), starts_of, row)

    def test_2000_colors(self):
        source = random.Random(15)
        row = tuple(source.randint(0, 5) for _ in range(2000))
        self.assert_result(tuple(model.starts(row)), starts_of, row)
        self.assert_result(tuple(range(0, 1999, 2)), starts_of, (1, 0) * 1000)
        self.assert_result((0,), starts_of, (5,) * 2000)


class BlocksTest(RowCase):
    def check(self, row):
        self.assert_result(tuple(block for block, _, _ in model.blocks(row)), blocks_of, row)

    def test_the_examples(self):
        one, two, three, four = leaf_row((1, 2, 3, 4))
        self.assert_result((("block", (one, two)), ("block", (three, four))), blocks_of, (one, two, three, four))

    def test_short_rows(self):
        self.assert_result((), blocks_of, ())
        for item in (("leaf", 1), ("run", ("leaf", 1), 2), ("block", (("leaf", 1),))):
            self.assert_result((("block", (item,)),), blocks_of, (item,))

    def test_contents(self):
        for contents in SMALL.values():
            self.check(items_of(leaf_row(contents)))

    def test_any_nodes(self):
        row = any_nodes(200, 3, 16)
        self.check(tuple(node for place, node in enumerate(row) if place == 0 or node != row[place - 1]))

    def test_2000_items(self):
        for name in ("all different", "pairs of long strings"):
            self.check(leaf_row(LARGE[name]))


if __name__ == "__main__":
    unittest.main()
