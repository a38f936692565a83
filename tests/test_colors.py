import random
import unittest

from sameshape.colors import coins_of, colors_of, mix, one_round
from sameshape.nodes import items_of
from tests import model
from tests.samples import EDGES, LARGE, MIXED, SMALL, STRINGS, any_nodes, deep_node
from tests.support import RowCase

MOST = 10 ** 18


def leaf_row(contents):
    return tuple(("leaf", element) for element in contents)


def without_neighbors(row):
    """The row without the values that are equal to the one before them."""
    return tuple(value for place, value in enumerate(row) if place == 0 or value != row[place - 1])


ROWS = [items_of(leaf_row(contents)) for contents in SMALL.values()]
ROWS.append(without_neighbors(any_nodes(200, 3, 12)))
ROWS.append(leaf_row(without_neighbors(EDGES + STRINGS + MIXED)))
DIGITS = (3, 1, 4, 1, 5, 9, 2, 6)


class CoinsTest(RowCase):
    def test_the_examples(self):
        self.assert_result((1, 262145, 262148), coins_of, leaf_row((3, 1, 4)))
        self.assert_result((1, 262145, 262148, 262145, 262149, 262153, 262146, 262150), coins_of, leaf_row(DIGITS))

    def test_short_rows(self):
        self.assert_result((), coins_of, ())
        for item, coin in ((("leaf", 0), 1), (("leaf", -5), 2), (("leaf", ""), 3), (("leaf", (1, 2)), 4),
                           (("run", ("leaf", 0), 2), 5), (("block", (("leaf", 0),)), 6)):
            self.assert_result((coin,), coins_of, (item,))

    def test_where_codes_differ(self):
        zero = ("leaf", 0)
        for before, item, place, number in (
                (("leaf", -1), ("leaf", 1), 0, 1), (("leaf", 1), ("leaf", "1"), 0, 3),
                (("leaf", 1), ("leaf", 65536), 3, 1), (("leaf", 65536 ** 3), ("leaf", 1), 1, 0),
                (("leaf", "ab"), ("leaf", "abc"), 1, 3), (("leaf", "abc"), ("leaf", "abd"), 4, 100),
                (("leaf", ""), ("leaf", "x" * 20), 1, 20), (("leaf", "x" * 20), ("leaf", "x" * 19 + "y"), 21, 121),
                (("leaf", (1, 2)), ("leaf", (1, "2")), 6, 3), (("leaf", ("x", 1)), ("leaf", ("x", 2)), 8, 2),
                (zero, ("run", zero, 2), 0, 5), (("run", zero, 2), ("run", zero, 3), 2, 3),
                (("run", zero, 2), ("run", ("leaf", 1), 2), 7, 1), (("run", zero, 2), ("block", (zero,)), 0, 6),
                (("block", (zero,)), ("block", (zero, zero)), 1, 2),
                (("block", (zero, zero)), ("block", (zero, ("leaf", 9))), 11, 9),
                (("block", (("run", zero, 2), zero)), ("block", (("run", zero, 2), ("leaf", ""))), 10, 3),
                (("block", (("block", (zero, zero)), zero)), ("block", (("block", (zero, ("leaf", 4))), zero)), 13, 4)):
            with self.subTest((before, item)):
                first = model.node_code(before)[0]
                self.assert_result((first, 65536 * place + number), coins_of, (before, item))

    def test_all_rows(self):
        for row in ROWS:
            self.assert_result(tuple(model.coins(row)), coins_of, row)

    def test_large_neighbors(self):
        row = (deep_node(1), deep_node(2), deep_node(1), deep_node("1"), deep_node(("a", "b")))
        self.assert_result(tuple(model.coins(row)), coins_of, row)

    def test_a_row_of_2000_large_nodes(self):
        deep = deep_node(1)
        row = tuple(("block", (("leaf", place), deep)) for place in range(2000))
        self.assert_result((6,) + tuple(65536 * 6 + place for place in range(1, 2000)), coins_of, row)


class MixTest(RowCase):
    def test_the_examples(self):
        self.assert_result(4, mix, 5, 1)
        self.assert_result(5, mix, 1, 5)

    def test_small_integers(self):
        for a in range(40):
            for b in range(40):
                if a != b:
                    self.assert_result(model.mix(a, b), mix, a, b)

    def test_the_lowest_bit_alone(self):
        self.assert_result(1, mix, 0, 1)
        self.assert_result(0, mix, 1, 0)
        self.assert_result(1, mix, MOST, MOST + 1)
        self.assert_result(0, mix, MOST - 1, MOST - 2)

    def test_the_highest_bit_alone(self):
        high = 2 ** 59
        self.assert_result(119, mix, 0, high)
        self.assert_result(118, mix, high, 0)
        self.assert_result(118, mix, MOST, MOST - high)
        self.assert_result(119, mix, MOST - high, MOST)

    def test_the_greatest_numbers(self):
        source = random.Random(13)
        for _ in range(300):
            a, b = source.randint(0, MOST), source.randint(0, MOST)
            if a != b:
                self.assert_result(model.mix(a, b), mix, a, b)
        self.assert_result(model.mix(MOST, 0), mix, MOST, 0)
        self.assert_result(model.mix(0, MOST), mix, 0, MOST)


class RoundTest(RowCase):
    def test_the_examples(self):
        self.assert_result((1, 37, 0), one_round, (1, 262145, 262148))
        row = (1, 262145, 262148, 262145, 262149, 262153, 262146, 262150)
        for after in ((1, 37, 0, 1, 5, 4, 0, 5), (1, 5, 0, 1, 5, 0, 4, 1), (1, 5, 0, 1, 5, 0, 5, 1),
                      (1, 5, 0, 1, 5, 0, 1, 4)):
            self.assert_result(after, one_round, row)
            row = after

    def test_short_rows(self):
        self.assert_result((), one_round, ())
        for number, bit in ((0, 0), (1, 1), (2, 0), (MOST, 0), (MOST - 1, 1)):
            self.assert_result((bit,), one_round, (number,))

    def test_numbers_before_the_round_are_taken(self):
        self.assert_result((0, 2, 7, 1), one_round, (6, 4, 12, 13))

    def test_long_rows(self):
        source = random.Random(14)
        for most in (1, 6, 100, MOST):
            row = without_neighbors([source.randint(0, most) for _ in range(2000)])
            self.assert_result(tuple(model.one_round(row)), one_round, row)
        row = tuple(range(2000))
        self.assert_result(tuple(model.one_round(row)), one_round, row)


class ColorsTest(RowCase):
    def test_the_examples(self):
        self.assert_result((1, 0, 1), colors_of, leaf_row((1, 2, 3)))
        self.assert_result((1, 5, 0, 1, 5, 0, 1, 4), colors_of, leaf_row(DIGITS))
        self.assert_result((1, 0, 1, 0, 1, 0), colors_of, leaf_row((1, 2, 3, 4, 5, 6)))

    def test_short_rows(self):
        self.assert_result((), colors_of, ())
        for item, color in ((("leaf", 0), 1), (("leaf", -5), 0), (("leaf", ""), 1), (("leaf", (1, 2)), 0),
                            (("run", ("leaf", 0), 2), 1), (("block", (("leaf", 0),)), 0)):
            self.assert_result((color,), colors_of, (item,))

    def test_all_rows(self):
        for row in ROWS:
            self.assert_result(tuple(model.colors(row)), colors_of, row)

    def test_rows_of_2000_nodes(self):
        for name in ("all different", "pairs of long strings"):
            row = leaf_row(LARGE[name])
            self.assertEqual(len(row), 2000)
            self.assert_result(tuple(model.colors(row)), colors_of, row)

    def test_neighbors_differ_and_six_colors_suffice(self):
        for contents in LARGE.values():
            found = colors_of(items_of(leaf_row(contents)))
            self.assertLessEqual(set(found), set(range(6)))
            self.assertNotIn(True, [a == b for a, b in zip(found, found[1:])])


if __name__ == "__main__":
    unittest.main()
