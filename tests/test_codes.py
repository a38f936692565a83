import itertools
import unittest

from sameshape.codes import code_of, compare_scalars
from tests import model
from tests.samples import EDGES, FAR, MIXED, STRINGS
from tests.support import RowCase


class CompareTest(unittest.TestCase):
    def test_the_example(self):
        self.assertEqual(compare_scalars("ab", "abc"), -1)

    def test_all_pairs_of_an_ordered_row(self):
        row = EDGES + STRINGS
        for at, behind in itertools.product(range(len(row)), repeat=2):
            expected = (at > behind) - (at < behind)
            found = compare_scalars(row[at], row[behind])
            self.assertEqual(found, expected, (row[at], row[behind]))
            self.assertIs(type(found), int)

    def test_integers_come_before_strings(self):
        self.assertEqual(compare_scalars(FAR, ""), -1)
        self.assertEqual(compare_scalars("", FAR), 1)
        self.assertEqual(compare_scalars(1, "1"), -1)
        self.assertEqual(compare_scalars("-5", -5), 1)

    def test_a_beginning_comes_first(self):
        long = "abcdefghijklmnopqrst"
        for many in range(20):
            self.assertEqual(compare_scalars(long[:many], long), -1)
            self.assertEqual(compare_scalars(long, long[:many]), 1)
        self.assertEqual(compare_scalars(long, "abcdefghijklmnopqrst"), 0)

    def test_characters_are_ordered_by_their_codes(self):
        self.assertEqual(compare_scalars("Z", "a"), -1)
        self.assertEqual(compare_scalars("a", "B"), 1)
        self.assertEqual(compare_scalars("a~", "b "), -1)
        self.assertEqual(compare_scalars("b", "aaaaaaaaaaaaaaaaaaaa"), 1)
        self.assertEqual(compare_scalars("10", "9"), -1)


class CodeTest(RowCase):
    def test_the_examples(self):
        self.assert_result((1, 0, 0, 1, 4464), code_of, 70000)
        self.assert_result((2, 0, 0, 0, 2), code_of, -2)
        self.assert_result((1, 0, 0, 0, 0), code_of, 0)
        self.assert_result((3, 3, 97, 98, 99), code_of, "abc")
        self.assert_result((3, 0), code_of, "")
        self.assert_result((4, 3, 1, 120, 1, 0, 0, 0, 5), code_of, ("x", 5))

    def test_the_edges_of_integers(self):
        self.assert_result((1, 3, 36222, 42182, 32768), code_of, FAR)
        self.assert_result((2, 3, 36222, 42182, 32768), code_of, -FAR)
        self.assert_result((1, 0, 0, 0, 65535), code_of, 65535)
        self.assert_result((1, 0, 0, 1, 0), code_of, 65536)
        self.assert_result((1, 0, 1, 0, 0), code_of, 65536 ** 2)
        self.assert_result((1, 1, 0, 0, 0), code_of, 65536 ** 3)
        self.assert_result((2, 1, 0, 0, 0), code_of, -65536 ** 3)
        self.assert_result((2, 0, 0, 0, 1), code_of, -1)

    def test_the_edges_of_strings(self):
        self.assert_result((3, 1, 32), code_of, " ")
        self.assert_result((3, 20) + (126,) * 20, code_of, "~" * 20)

    def test_pairs(self):
        self.assert_result((4, 3, 0, 3, 0), code_of, ("", ""))
        self.assert_result((4, 2, 0, 0, 0, 7, 3, 1, 55), code_of, (-7, "7"))

    def test_as_the_table_says(self):
        scalars = EDGES + STRINGS
        for element in scalars + MIXED + tuple(itertools.product(scalars, repeat=2)):
            self.assert_result(tuple(model.element_code(element)), code_of, element)

    def test_different_elements_have_different_codes(self):
        scalars = EDGES + STRINGS
        row = scalars + tuple(itertools.product(scalars, repeat=2))
        self.assertEqual(len({code_of(element) for element in row}), len(row))


if __name__ == "__main__":
    unittest.main()
