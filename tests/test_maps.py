import unittest

from sameshape.errors import TooManyElements
from sameshape.maps import (between, common_keys, entry_from, entry_up_to, joined_maps, map_of, other_keys, rank_of,
                            value_at, with_entry, without_key)
from tests import collections_model as model
from tests.samples import EDGES, FAR, STRINGS, any_map, picked
from tests.support import RowCase

MADE = ((10, "x"), ("a", 1), ("b", 3))
KEYS = EDGES + STRINGS
WHOLE = tuple((place, -place) for place in range(2000))
ASKED = (-FAR, -2, -1, 0, 1, 2, 5, 9, FAR, "", " ", "0", "1", "a", "aa", "ax", "b", "c", "~" * 20)
MAPS = tuple(any_map(many % 9, (-1, 0, 1, 2, 3, 9, 10, "", "0", "1", "a", "aa", "b"), (0, 1, "a", ""), many)
             for many in range(40))


class MapTest(RowCase):
    def test_the_examples(self):
        self.assert_result(MADE, map_of, (("b", 2), (10, "x"), ("a", 1), ("b", 3)))

    def test_no_entries_and_one(self):
        self.assert_result((), map_of, ())
        self.assert_result((("", 0),), map_of, (("", 0),))

    def test_the_order_of_the_keys(self):
        entries = tuple((key, place) for place, key in enumerate(KEYS))
        self.assert_result(entries, map_of, entries)
        self.assert_result(entries, map_of, entries[::-1])
        self.assert_result(entries, map_of, entries[7:] + entries[:7])

    def test_integers_and_strings_side_by_side(self):
        self.assert_result(((1, "a"), (10, "b"), ("", "c"), ("1", "d")), map_of,
                           (("1", "d"), (10, "b"), ("", "c"), (1, "a")))

    def test_a_key_several_times(self):
        self.assert_result(((1, "c"), (2, "b")), map_of, ((1, "a"), (2, "b"), (1, "d"), (1, "c")))
        self.assert_result(((1, "c"), ("1", "d")), map_of, (("1", "a"), (1, "c"), ("1", "d")))
        self.assert_result(((7, 1999),), map_of, tuple((7, place) for place in range(2000)))

    def test_any_entries(self):
        for seed in range(60):
            keys = picked(seed % 30, KEYS, seed)
            entries = tuple(zip(keys, picked(seed % 30, KEYS, seed + 1)))
            self.assert_result(model.map_of(entries), map_of, entries)

    def test_2000_entries(self):
        self.assert_result(WHOLE, map_of, WHOLE[::-1])

    def test_2001_entries(self):
        self.assert_result(WHOLE, map_of, WHOLE + WHOLE[5:6])
        self.assert_refused(TooManyElements(2001), map_of, WHOLE + (("a", 1),))


class AskingTest(RowCase):
    def test_the_examples(self):
        self.assert_result(2, rank_of, MADE, "b")
        self.assert_result(("a", 1), entry_up_to, MADE, "ax")
        self.assert_result(None, entry_from, MADE, "c")
        self.assert_result(((10, "x"), ("a", 1)), between, MADE, 0, "b")

    def test_keys_of_the_map(self):
        for place, entry in enumerate(MADE):
            self.assert_result(entry[1], value_at, MADE, entry[0])
            self.assert_result(place, rank_of, MADE, entry[0])
            self.assert_result(entry, entry_up_to, MADE, entry[0])
            self.assert_result(entry, entry_from, MADE, entry[0])

    def test_a_key_before_all_keys(self):
        for key in (9, -FAR):
            self.assert_result(None, value_at, MADE, key)
            self.assert_result(0, rank_of, MADE, key)
            self.assert_result(None, entry_up_to, MADE, key)
            self.assert_result((10, "x"), entry_from, MADE, key)

    def test_a_key_behind_all_keys(self):
        for key in ("b ", "~" * 20):
            self.assert_result(None, value_at, MADE, key)
            self.assert_result(3, rank_of, MADE, key)
            self.assert_result(("b", 3), entry_up_to, MADE, key)
            self.assert_result(None, entry_from, MADE, key)

    def test_a_key_between_the_keys(self):
        for key, place in ((11, 1), (FAR, 1), ("", 1), ("10", 1), ("aa", 2)):
            self.assert_result(None, value_at, MADE, key)
            self.assert_result(place, rank_of, MADE, key)
            self.assert_result(MADE[place - 1], entry_up_to, MADE, key)
            self.assert_result(MADE[place], entry_from, MADE, key)

    def test_no_entries(self):
        for key in (0, ""):
            self.assert_result(None, value_at, (), key)
            self.assert_result(0, rank_of, (), key)
            self.assert_result(None, entry_up_to, (), key)
            self.assert_result(None, entry_from, (), key)
            self.assert_result((), between, (), key, "a")

    def test_values_that_are_zero_or_empty(self):
        self.assert_result(0, value_at, ((1, 0), (2, "")), 1)
        self.assert_result("", value_at, ((1, 0), (2, "")), 2)

    def test_any_keys(self):
        for contents in MAPS:
            for key in ASKED:
                below = [entry for entry in contents if model.comes_before(entry[0], key)]
                same = [entry for entry in contents if entry[0] == key]
                above = [entry for entry in contents if model.comes_before(key, entry[0])]
                self.assert_result(same[0][1] if same else None, value_at, contents, key)
                self.assert_result(len(below), rank_of, contents, key)
                self.assert_result((below + same)[-1] if below + same else None, entry_up_to, contents, key)
                self.assert_result((same + above)[0] if same + above else None, entry_from, contents, key)

    def test_2000_entries(self):
        for place in range(0, 2000, 111):
            self.assert_result(place, rank_of, WHOLE, place)
            self.assert_result(-place, value_at, WHOLE, place)
        self.assert_result(2000, rank_of, WHOLE, "")

    def test_between(self):
        self.assert_result(MADE, between, MADE, -FAR, "~")
        self.assert_result(MADE[1:], between, MADE, 11, "c")
        self.assert_result(MADE[1:2], between, MADE, "a", "b")
        self.assert_result((), between, MADE, "aa", "ab")
        self.assert_result(WHOLE[5:10], between, WHOLE, 5, 10)

    def test_between_keys_in_the_wrong_order(self):
        self.assert_result((), between, MADE, "b", "a")
        self.assert_result((), between, MADE, "a", "a")
        self.assert_result((), between, MADE, "b", 10)
        self.assert_result((), between, MADE, "a", 0)
        self.assert_result((), between, WHOLE, 10, 5)

    def test_between_any_keys(self):
        for contents in MAPS:
            for start in ASKED[::2]:
                for end in ASKED[::3]:
                    expected = tuple(entry for entry in contents if not model.comes_before(entry[0], start)
                                     and model.comes_before(entry[0], end))
                    self.assert_result(expected, between, contents, start, end)


class WithEntryTest(RowCase):
    def test_a_key_that_is_there(self):
        self.assert_result(((10, "y"), ("a", 1), ("b", 3)), with_entry, MADE, 10, "y")
        self.assert_result(((10, "x"), ("a", ""), ("b", 3)), with_entry, MADE, "a", "")
        self.assert_result(MADE, with_entry, MADE, "b", 3)

    def test_a_key_that_is_not_there(self):
        self.assert_result((("a", 1),), with_entry, (), "a", 1)
        self.assert_result(((0, 5),) + MADE, with_entry, MADE, 0, 5)
        self.assert_result(MADE + (("c", 5),), with_entry, MADE, "c", 5)
        self.assert_result(MADE[:1] + (("10", 5),) + MADE[1:], with_entry, MADE, "10", 5)

    def test_any_keys(self):
        for contents in MAPS:
            for key in ASKED:
                self.assert_result(model.map_of(contents + ((key, "new"),)), with_entry, contents, key, "new")

    def test_2000_entries_and_one_more(self):
        self.assert_result(WHOLE, with_entry, WHOLE[:7] + WHOLE[8:], 7, -7)
        self.assert_result(WHOLE[:7] + ((7, "y"),) + WHOLE[8:], with_entry, WHOLE, 7, "y")
        self.assert_refused(TooManyElements(2001), with_entry, WHOLE, -1, 0)
        self.assert_refused(TooManyElements(2001), with_entry, WHOLE, "a", 0)


class WithoutKeyTest(RowCase):
    def test_a_key_that_is_there(self):
        self.assert_result(MADE[1:], without_key, MADE, 10)
        self.assert_result((MADE[0], MADE[2]), without_key, MADE, "a")
        self.assert_result(MADE[:2], without_key, MADE, "b")
        self.assert_result((), without_key, (("a", 1),), "a")

    def test_a_key_that_is_not_there(self):
        self.assert_result((), without_key, (), "a")
        for key in (0, 11, "10", "c", ""):
            self.assert_result(MADE, without_key, MADE, key)
        self.assert_result(WHOLE, without_key, WHOLE, "a")

    def test_any_keys(self):
        for contents in MAPS:
            for key in ASKED:
                expected = tuple(entry for entry in contents if entry[0] != key)
                self.assert_result(expected, without_key, contents, key)


class CombinedTest(RowCase):
    def test_the_examples(self):
        second = (("a", 5), ("c", 6))
        self.assert_result(((10, "x"), ("a", 5), ("b", 3), ("c", 6)), joined_maps, MADE, second)
        self.assert_result((("a", 1),), common_keys, MADE, second)
        self.assert_result(((10, "x"), ("b", 3)), other_keys, MADE, second)

    def test_no_entries(self):
        for first, second, both in (((), (), ()), (MADE, (), MADE), ((), MADE, MADE)):
            self.assert_result(both, joined_maps, first, second)
            self.assert_result((), common_keys, first, second)
            self.assert_result(first, other_keys, first, second)

    def test_equal_maps(self):
        self.assert_result(MADE, joined_maps, MADE, MADE)
        self.assert_result(MADE, common_keys, MADE, MADE)
        self.assert_result((), other_keys, MADE, MADE)

    def test_integers_and_strings_are_different_keys(self):
        self.assert_result(((1, "a"), ("1", "b")), joined_maps, (("1", "b"),), ((1, "a"),))
        self.assert_result((), common_keys, (("1", "b"),), ((1, "a"),))
        self.assert_result((("1", "b"),), other_keys, (("1", "b"),), ((1, "a"),))

    def test_any_maps(self):
        for first in MAPS[::2]:
            for second in MAPS[::3]:
                keys = [entry[0] for entry in second]
                self.assert_result(model.map_of(first + second), joined_maps, first, second)
                self.assert_result(tuple(entry for entry in first if entry[0] in keys), common_keys, first, second)
                self.assert_result(tuple(entry for entry in first if entry[0] not in keys), other_keys, first, second)

    def test_more_than_2000_entries_together(self):
        changed = tuple((key, "y") for key, _ in WHOLE)
        self.assert_result(changed, joined_maps, WHOLE, changed)
        self.assert_result(WHOLE, common_keys, WHOLE, changed)
        self.assert_result((), other_keys, WHOLE, changed)
        self.assert_result(WHOLE, joined_maps, WHOLE[:1500], WHOLE[500:])
        self.assert_result(WHOLE[500:1500], common_keys, WHOLE[:1500], WHOLE[500:])
        self.assert_result(WHOLE[:500], other_keys, WHOLE[:1500], WHOLE[500:])

    def test_a_joined_map_of_2001_entries(self):
        self.assert_refused(TooManyElements(2001), joined_maps, WHOLE, (("a", 1),))
        self.assert_refused(TooManyElements(2001), joined_maps, (("a", 1),), WHOLE)
        self.assert_refused(TooManyElements(4000), joined_maps, WHOLE, tuple((str(key), 0) for key, _ in WHOLE))
        self.assert_result(WHOLE, other_keys, WHOLE, (("a", 1),))
        self.assert_result((), common_keys, WHOLE, (("a", 1),))


if __name__ == "__main__":
    unittest.main()
