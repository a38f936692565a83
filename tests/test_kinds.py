import unittest

from sameshape.errors import EmptyInterval, TooManyElements
from sameshape.kinds import contents_of, is_valid
from tests import collections_model as model
from tests.samples import EDGES, FAR, MIXED, SETS, STRINGS, any_intervals, any_map, picked
from tests.support import RowCase

KINDS = ("sequence", "map", "queue", "intervals")


class ContentsTest(RowCase):
    def test_the_example(self):
        self.assert_result(((1, 5),), contents_of, "intervals", ((3, 5), (1, 3)))

    def test_no_elements(self):
        for kind in KINDS:
            self.assert_result((), contents_of, kind, ())

    def test_sequences(self):
        for rows in ((3, 1, 2, 1), MIXED, (("b", 2), ("a", 1)), ((5, 3), (1, 2))):
            self.assert_result(rows, contents_of, "sequence", rows)

    def test_maps(self):
        self.assert_result(((10, "x"), ("a", 1), ("b", 3)), contents_of, "map",
                           (("b", 2), (10, "x"), ("a", 1), ("b", 3)))
        self.assert_result((("a", 2),), contents_of, "map", (("a", 1), ("a", 3), ("a", 2)))
        for seed in range(30):
            rows = tuple(zip(picked(seed, EDGES + STRINGS, seed), picked(seed, STRINGS, seed + 1)))
            self.assert_result(model.map_of(rows), contents_of, "map", rows)

    def test_queues(self):
        self.assert_result(((-2, "z"), (1, "a"), (5, "e"), (5, "f")), contents_of, "queue",
                           ((5, "e"), (1, "a"), (5, "f"), (-2, "z")))
        self.assert_result(((1, "b"), (1, "a"), (1, "b")), contents_of, "queue", ((1, "b"), (1, "a"), (1, "b")))
        for seed in range(30):
            rows = tuple(zip(picked(seed, (-FAR, -1, 0, 1, 2, FAR), seed), picked(seed, STRINGS, seed + 1)))
            self.assert_result(model.in_order(rows), contents_of, "queue", rows)

    def test_interval_sets(self):
        self.assert_result(((0, 3), (5, 6), (8, 9), (12, 20)), contents_of, "intervals",
                           ((8, 9), (0, 2), (12, 20), (5, 6), (1, 3)))
        self.assert_result(((-FAR, FAR),), contents_of, "intervals", ((0, FAR), (-FAR, 0)))
        for seed in range(30):
            rows = any_intervals(seed, seed)
            self.assert_result(model.intervals_with(model.numbers_of(rows)), contents_of, "intervals", rows)

    def test_empty_intervals(self):
        self.assert_refused(EmptyInterval(), contents_of, "intervals", ((1, 1),))
        self.assert_refused(EmptyInterval(), contents_of, "intervals", ((1, 3), (5, 4), (7, 8)))
        self.assert_refused(EmptyInterval(), contents_of, "intervals", ((1, 3), (2, 2)))

    def test_2000_and_2001_elements(self):
        pairs = tuple((2 * place, 2 * place + 1) for place in range(2000))
        for kind in KINDS:
            self.assert_result(pairs, contents_of, kind, pairs)
            self.assert_refused(TooManyElements(2001), contents_of, kind, pairs + ((9000, 9001),))
        self.assert_refused(EmptyInterval(), contents_of, "intervals", pairs + ((9000, 9000),))


class ValidTest(RowCase):
    def check(self, kinds, contents):
        """The contents are valid for exactly these kinds, and for sequences."""
        for kind in KINDS:
            self.assertIs(is_valid(kind, contents), kind == "sequence" or kind in kinds, (kind, contents))

    def test_the_example(self):
        self.assertIs(is_valid("map", (("a", 1), ("a", 2))), False)

    def test_no_elements(self):
        self.check(KINDS, ())

    def test_elements_that_are_no_pairs(self):
        self.check((), (1, 2, 3))
        self.check((), ("a", "b"))
        # Strings of two characters are no pairs.
        self.check((), ("ab", "cd"))
        self.check((), ((1, 2), 5))
        self.check((), (5, (7, 8)))
        self.check((), ((1, 2), "ab", (7, 8)))

    def test_pairs_with_strings(self):
        self.check(("map",), (("a", "b"),))
        self.check(("map",), (("a", 1),))
        self.check(("map", "queue"), ((1, "a"),))
        self.check(("map",), ((1, 2), ("a", 9)))
        self.check(("map", "queue"), ((1, 2), (4, "")))
        self.check(("map", "queue"), ((1, ""), (4, 5)))

    def test_the_order_of_the_first_scalars(self):
        self.check(("map", "queue", "intervals"), ((1, 2), (3, 4)))
        self.check((), ((3, 4), (1, 2)))
        self.check(("queue",), ((1, 2), (1, 2)))
        self.check(("queue",), ((1, "b"), (1, "a"), (2, "a")))
        self.check((), ((1, "b"), (0, "a"), (2, "a")))
        self.check(("map",), (("a", 1), ("ab", 0), ("b", 0)))
        self.check((), (("ab", 1), ("a", 0)))
        self.check((), (("a", 1), ("a", 1)))
        self.check(("map",), ((5, 6), ("", 0)))
        self.check((), (("", 0), (5, 6)))
        self.check(("map",), tuple((key, 0) for key in EDGES + STRINGS))
        self.check(("map", "queue"), tuple((key, 0) for key in EDGES))

    def test_empty_intervals(self):
        self.check(("map", "queue"), ((1, 1),))
        self.check(("map", "queue"), ((1, 0),))
        self.check(("map", "queue"), ((1, 2), (4, 4)))
        self.check(("map", "queue"), ((1, 2), (4, 3), (6, 7)))

    def test_intervals_that_touch_or_overlap(self):
        self.check(("map", "queue"), ((1, 2), (2, 3)))
        self.check(("map", "queue"), ((1, 5), (2, 3)))
        self.check(("map", "queue", "intervals"), ((1, 2), (3, 4), (5, 6)))
        self.check(("map", "queue"), ((1, 2), (3, 5), (5, 6)))
        self.check(("map", "queue", "intervals"), ((-FAR, -1), (0, FAR)))

    def test_contents_that_were_made(self):
        for seed in range(40):
            self.assertIs(is_valid("map", any_map(seed % 9, MIXED[:8], (0, "a"), seed)), True)
            rows = tuple(zip(picked(seed, (-1, 0, 1, 2), seed), picked(seed, STRINGS, seed + 1)))
            self.assertIs(is_valid("queue", contents_of("queue", rows)), True)
            self.assertIs(is_valid("queue", rows), rows == model.in_order(rows))
            self.assertIs(is_valid("map", rows), rows == model.map_of(rows))
            intervals = any_intervals(seed % 5, seed)
            made = model.intervals_with(model.numbers_of(intervals))
            self.assertIs(is_valid("intervals", intervals), intervals == made)
        for contents in SETS:
            self.assertIs(is_valid("intervals", contents), True)

    def test_2000_elements(self):
        self.check(("map", "queue", "intervals"), tuple((2 * place, 2 * place + 1) for place in range(2000)))
        self.check(("map", "queue"), tuple((place, place + 1) for place in range(2000)))


if __name__ == "__main__":
    unittest.main()
