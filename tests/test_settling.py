import types
import unittest

from sameshape.settling import fixed_of, settled_of, settlements
from tests import model
from tests.samples import LARGE, SMALL, picked, scattered, stretched
from tests.support import RowCase

ONE_TO_NINE = (1, 2, 3, 4, 5, 6, 7, 8, 9)
# Contents with settled nodes on the levels 2 and 3 that the model can still go through beginning by beginning.
LONGER = {
    "ascending": tuple(range(150)),
    "two values": picked(250, ("a", "b"), 18),
    "stretches": stretched(250, (1, 2, ("a", 1), "b"), 19),
    "scattered": scattered(150, 20),
    "a part that is repeated": scattered(11, 21) * 13,
    "a run of blocks": ("x", "y", "y", "y") * 40 + tuple(range(30)) + ("x", "y", "y", "y") * 20,
}


def all_settlements(contents):
    return tuple(settlements(contents))


def spans(levels):
    return tuple(tuple((start, end) for _, start, end in level) for level in levels)


class SettledTest(RowCase):
    def test_the_examples(self):
        self.assert_result((9, 3), settled_of, ONE_TO_NINE)
        self.assert_result((8, 1), settled_of, (1, 1, 2, 3, 3, 4, 5, 6))

    def test_few_elements_and_equal_ones(self):
        self.assert_result((), settled_of, ())
        self.assert_result((1,), settled_of, (5,))
        self.assert_result((3,), settled_of, (7, 7, 7))
        self.assert_result((2000,), settled_of, (7,) * 2000)

    def test_contents(self):
        for name, contents in list(SMALL.items()) + list(LONGER.items()) + list(LARGE.items()):
            with self.subTest(name):
                expected = tuple(len(level) for level in model.settled(contents))
                self.assert_result(expected, settled_of, contents)

    def test_beginnings(self):
        for contents in LONGER.values():
            for many in range(0, len(contents), 7):
                expected = tuple(len(level) for level in model.settled(contents[:many]))
                self.assert_result(expected, settled_of, contents[:many])

    def test_settled_nodes_stay(self):
        contents = LONGER["ascending"]
        for many in range(0, 150, 10):
            settled = model.settled(contents[:many])
            for number, level in enumerate(settled):
                if number > 0:
                    self.assertEqual(model.levels(contents)[number][:len(level)], level)


class SettlementsTest(RowCase):
    def test_the_examples(self):
        expected = ((5, 1, 0, 2), (7, 1, 2, 4), (9, 1, 4, 6))
        self.assert_result(expected, all_settlements, ONE_TO_NINE)
        self.assert_result(((7, 1, 0, 3),), all_settlements, (1, 1, 2, 3, 3, 4, 5, 6))

    def test_it_is_a_generator(self):
        found = settlements(ONE_TO_NINE)
        self.assertIsInstance(found, types.GeneratorType)
        self.assertEqual(next(found), (5, 1, 0, 2))
        self.assertEqual(list(found), [(7, 1, 2, 4), (9, 1, 4, 6)])
        self.assertIsInstance(settlements(()), types.GeneratorType)

    def test_few_elements_and_equal_ones(self):
        for contents in ((), (5,), (1, 2, 3, 4), (7,) * 2000):
            self.assert_result((), all_settlements, contents)

    def test_contents(self):
        for name, contents in list(SMALL.items()) + list(LONGER.items()):
            with self.subTest(name):
                self.assert_result(model.settlements(contents), all_settlements, contents)
        for contents in LONGER.values():
            self.assertGreaterEqual(max(level for _, level, _, _ in settlements(contents)), 2)

    def test_the_order(self):
        for contents in list(LONGER.values()) + list(LARGE.values()):
            places = [(after, level) for after, level, _, _ in settlements(contents)]
            self.assertEqual(places, sorted(set(places)))

    def test_beginnings_agree_with_the_whole(self):
        for contents in list(LONGER.values()) + list(LARGE.values()):
            whole = all_settlements(contents)
            for many in range(0, len(contents), 97):
                expected = tuple(row for row in whole if row[0] <= many)
                self.assertEqual(all_settlements(contents[:many]), expected)

    def test_2000_elements(self):
        for name, contents in LARGE.items():
            with self.subTest(name):
                found = all_settlements(contents)
                self.assert_rows(found)
                self.assertEqual(sorted(row[1:] for row in found), sorted(model.triples(model.settled(contents))))
                for after, level, start, end in found[-2:]:
                    self.assertIn((level, start, end), model.triples(model.settled(contents[:after])))
                    self.assertNotIn((level, start, end), model.triples(model.settled(contents[:after - 1])))


class FixedTest(RowCase):
    def test_the_examples(self):
        contents = (1, 2, 3, 4, 5, 6, 7, 8, 9, 10, 11, 12, 13, 14, 15)
        leaf_spans = tuple((place, place + 1) for place in range(15))
        self.assert_result((leaf_spans, ((8, 10), (10, 12))), fixed_of, contents)

    def test_few_elements_and_equal_ones(self):
        self.assert_result((), fixed_of, ())
        self.assert_result((((0, 1),),), fixed_of, (5,))
        self.assert_result((((0, 1), (1, 2), (2, 3)),), fixed_of, (7, 7, 7))
        self.assert_result((tuple((place, place + 1) for place in range(2000)),), fixed_of, (7,) * 2000)

    def test_seven_items_before_and_three_behind(self):
        # With one element less there is one item less behind, or before, the last, or the first, fixed block.
        self.assertEqual(fixed_of(tuple(range(1, 15)))[1:], (((8, 10),),))
        self.assertEqual(fixed_of(tuple(range(1, 14)))[1:], (((8, 10),),))
        self.assertEqual(fixed_of(tuple(range(1, 13)))[1:], ())

    def test_contents(self):
        for name, contents in list(SMALL.items()) + list(LONGER.items()) + list(LARGE.items()):
            with self.subTest(name):
                self.assert_result(spans(model.fixed(contents)), fixed_of, contents)
        self.assertGreater(len(fixed_of(LONGER["ascending"])), 2)

    def test_elements_before_and_behind_change_nothing(self):
        contents = LONGER["scattered"]
        fixed = fixed_of(contents)
        self.assertGreater(len(fixed), 2)
        for before, behind in (((), (5,)), ((5,), ()), (contents[:3], contents), ((7, 7), ("a", "b", "c"))):
            around = model.levels(before + contents + behind)
            for number, level in enumerate(fixed):
                there = [(start - len(before), end - len(before)) for _, start, end in around[number]]
                for span in level:
                    self.assertIn(span, there)


if __name__ == "__main__":
    unittest.main()
