import unittest

from sameshape.errors import TooManyElements
from sameshape.merges import conflicts_of, merged
from tests import collections_model as model
from tests.samples import any_map
from tests.support import RowCase

BASE = (("a", 1), ("b", 2), ("c", 3))
OURS = (("a", 10), ("b", 2))
THEIRS = (("a", 1), ("b", 20), ("c", 3), ("d", 4))
KEYS = (-1, 0, 1, 10, "", "0", "a")
WHOLE = tuple((place, -place) for place in range(2000))


def one(value):
    """The map in which the key k has a value, or no value."""
    return () if value is None else (("k", value),)


class ConflictsTest(RowCase):
    def test_the_examples(self):
        self.assert_result((("a", 1, 10, None),), conflicts_of, (("a", 1),), (("a", 10),), ())
        self.assert_result((), conflicts_of, BASE, OURS, THEIRS)
        self.assert_result((("a", 1, 10, 11),), conflicts_of, BASE, OURS, (("a", 11), ("b", 2), ("c", 3)))

    def test_no_entries(self):
        self.assert_result((), conflicts_of, (), (), ())
        self.assert_result((), conflicts_of, BASE, (), ())
        self.assert_result((), conflicts_of, (), BASE, ())
        self.assert_result((), conflicts_of, (), (), BASE)

    def test_three_different_values(self):
        for values in ((1, 2, 3), (None, 2, 3), (1, None, 3), (1, 2, None), (1, "1", None), (None, 0, ""),
                       (0, "", None), ("", None, 0)):
            self.assert_result((("k",) + values,), conflicts_of, *map(one, values))

    def test_two_equal_values(self):
        for values in ((1, 1, 2), (1, 2, 1), (2, 1, 1), (None, None, 1), (None, 1, None), (1, None, None),
                       (1, 1, None), (1, None, 1), (None, 1, 1), (1, 1, 1), (None, None, None)):
            self.assert_result((), conflicts_of, *map(one, values))

    def test_the_order_of_the_keys(self):
        found = (("", 0, 1, 2), ("b", None, 1, 2))
        self.assert_result(((2, 0, 1, None),) + found, conflicts_of, ((2, 0), ("", 0)), ((2, 1), ("", 1), ("b", 1)),
                           (("", 2), ("b", 2)))

    def test_2000_conflicts(self):
        ours = tuple((key, "ours") for key, _ in WHOLE)
        theirs = tuple((key, "theirs") for key, _ in WHOLE)
        expected = tuple((key, value, "ours", "theirs") for key, value in WHOLE)
        self.assert_result(expected, conflicts_of, WHOLE, ours, theirs)


class MergedTest(RowCase):
    def test_the_examples(self):
        self.assert_result((("a", 10), ("b", 20), ("d", 4)), merged, BASE, OURS, THEIRS)
        self.assert_result(None, merged, BASE, OURS, (("a", 11), ("b", 2), ("c", 3)))

    def test_one_key(self):
        for values, result in (((1, 1, 1), 1), ((1, 2, 2), 2), ((1, None, None), None), ((None, 1, 1), 1),
                               ((1, 2, 1), 2), ((1, 1, 2), 2), ((1, None, 1), None), ((1, 1, None), None),
                               ((None, 1, None), 1), ((None, None, 1), 1), ((0, "", 0), ""), ((0, 0, ""), "")):
            self.assert_result(one(result), merged, *map(one, values))

    def test_a_key_in_conflict(self):
        for values in ((1, 2, 3), (None, 2, 3), (1, None, 3), (1, 2, None)):
            self.assert_result(None, merged, *map(one, values))
        self.assert_result(None, merged, BASE, OURS + (("d", 1),), THEIRS)

    def test_no_entries(self):
        self.assert_result((), merged, (), (), ())
        self.assert_result((), merged, BASE, (), ())
        self.assert_result((), merged, BASE, BASE, ())
        self.assert_result((), merged, BASE, (), BASE)
        self.assert_result(BASE, merged, (), BASE, ())
        self.assert_result(BASE, merged, (), (), BASE)
        self.assert_result(BASE, merged, BASE, BASE, BASE)

    def test_the_order_of_the_keys(self):
        self.assert_result(((1, 0), (2, 0), ("", 0), ("1", 0)), merged, (), ((2, 0), ("1", 0)), ((1, 0), ("", 0)))

    def test_any_maps(self):
        found = []
        for seed in range(300):
            base, ours, theirs = [any_map((seed + 3 * number) % 7, KEYS, (0, "a"), seed + 1000 * number)
                                  for number in range(3)]
            self.assert_result(model.conflicts(base, ours, theirs), conflicts_of, base, ours, theirs)
            expected = model.merged(base, ours, theirs)
            self.assert_result(expected, merged, base, ours, theirs)
            found.append(expected is None)
        self.assertEqual(set(found), {True, False})

    def test_2000_entries_and_2001(self):
        self.assert_result(WHOLE, merged, WHOLE[:1000], WHOLE[:1500], WHOLE[:1000] + WHOLE[1500:])
        self.assert_result(WHOLE[1:] + (("a", 0),), merged, WHOLE, WHOLE[1:], WHOLE[1:] + (("a", 0),))
        self.assert_refused(TooManyElements(2001), merged, WHOLE[5:], WHOLE, WHOLE[5:] + (("a", 0),))
        self.assert_refused(TooManyElements(2001), merged, (), WHOLE, (("a", 0),))
        words = tuple((str(key), value) for key, value in WHOLE)
        self.assert_refused(TooManyElements(4000), merged, (), WHOLE, model.in_order(words))

    def test_a_conflict_beside_too_many_entries(self):
        self.assert_result(None, merged, (), WHOLE + (("a", 1),), (("a", 2), ("b", 3)))


if __name__ == "__main__":
    unittest.main()
