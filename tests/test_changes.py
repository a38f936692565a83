import unittest

from sameshape.changes import apply_changes, changes_between, composed, inverted
from sameshape.errors import ChangeDoesNotApply, ChangesDoNotFollow, TooManyElements
from tests import collections_model as model
from tests.samples import any_map
from tests.support import RowCase

BASE = (("a", 1), ("b", 2), ("c", 3))
OURS = (("a", 10), ("b", 2))
WHOLE = tuple((place, -place) for place in range(2000))
WORDS = tuple((f"{place:04}", place) for place in range(2000))
MAPS = tuple(any_map(many % 10, (-1, 0, 1, 2, 10, "", "0", "a", "b"), (0, 1, "a", ""), many) for many in range(30))


class BetweenTest(RowCase):
    def test_the_examples(self):
        self.assert_result((("a", 1, 10), ("c", 3, None)), changes_between, BASE, OURS)

    def test_equal_maps(self):
        self.assert_result((), changes_between, (), ())
        self.assert_result((), changes_between, BASE, tuple(list(BASE)))
        self.assert_result((), changes_between, WHOLE, tuple(list(WHOLE)))

    def test_no_entries_on_one_side(self):
        self.assert_result((("a", None, 1), ("b", None, 2), ("c", None, 3)), changes_between, (), BASE)
        self.assert_result((("a", 1, None), ("b", 2, None), ("c", 3, None)), changes_between, BASE, ())

    def test_keys_that_only_one_of_them_has(self):
        self.assert_result(((5, None, "x"), ("a", 1, None), ("d", None, "")), changes_between, BASE[:2],
                           ((5, "x"), ("b", 2), ("d", "")))

    def test_a_value_of_another_kind(self):
        self.assert_result((("a", 1, "1"), ("b", 0, "")), changes_between, (("a", 1), ("b", 0)),
                           (("a", "1"), ("b", "")))

    def test_the_order_of_the_keys(self):
        self.assert_result(((1, None, 0), (2, 0, None), ("", None, 0), ("1", 0, None)), changes_between,
                           ((2, 0), ("1", 0)), ((1, 0), ("", 0)))

    def test_any_maps(self):
        for first in MAPS:
            for second in MAPS:
                self.assert_result(model.changes_between(first, second), changes_between, first, second)

    def test_4000_changes(self):
        expected = tuple((key, value, None) for key, value in WHOLE) + tuple((key, None, value) for key, value in WORDS)
        self.assert_result(expected, changes_between, WHOLE, WORDS)


class ApplyTest(RowCase):
    def test_the_examples(self):
        self.assert_refused(ChangeDoesNotApply(1), apply_changes, BASE[:2], (("a", 1, 10), ("b", 3, None)))
        self.assert_result(OURS, apply_changes, BASE, (("a", 1, 10), ("c", 3, None)))

    def test_no_changes(self):
        self.assert_result((), apply_changes, (), ())
        self.assert_result(BASE, apply_changes, BASE, ())

    def test_one_change(self):
        self.assert_result((("a", ""), ("b", 2), ("c", 3)), apply_changes, BASE, (("a", 1, ""),))
        self.assert_result(BASE[1:], apply_changes, BASE, (("a", 1, None),))
        self.assert_result(((7, 0),) + BASE, apply_changes, BASE, ((7, None, 0),))
        self.assert_result(BASE + (("d", 0),), apply_changes, BASE, (("d", None, 0),))
        self.assert_result((("x", 0),), apply_changes, (), (("x", None, 0),))
        self.assert_result((), apply_changes, (("x", 0),), (("x", 0, None),))

    def test_a_change_that_does_not_apply(self):
        for change in (("a", 2, 1), ("a", None, 2), ("a", "1", 2), ("d", 1, 2), ("d", 1, None), (0, 1, 2),
                       ("", 0, 1), ("a", 0, None)):
            self.assert_refused(ChangeDoesNotApply(0), apply_changes, BASE, (change,))

    def test_no_value_is_not_zero_and_not_empty(self):
        self.assert_refused(ChangeDoesNotApply(0), apply_changes, (("a", 0),), (("a", None, 1),))
        self.assert_refused(ChangeDoesNotApply(0), apply_changes, (("a", ""),), (("a", None, 1),))
        self.assert_refused(ChangeDoesNotApply(0), apply_changes, (), (("a", 0, 1),))
        self.assert_refused(ChangeDoesNotApply(0), apply_changes, (), (("a", "", 1),))

    def test_the_first_of_several(self):
        changes = ((5, None, 1), ("a", 1, 2), ("b", 9, 3), ("c", 9, 4), ("d", 9, 5))
        self.assert_refused(ChangeDoesNotApply(2), apply_changes, BASE, changes)
        self.assert_refused(ChangeDoesNotApply(0), apply_changes, BASE, changes[2:])

    def test_any_changes(self):
        for first in MAPS:
            for second in MAPS:
                changes = model.changes_between(first, second)
                self.assert_result(second, apply_changes, first, changes)
                for other in MAPS[::4]:
                    places = [place for place, change in enumerate(changes)
                              if change[1] != model.value_in(other, change[0])]
                    if places:
                        self.assert_refused(ChangeDoesNotApply(places[0]), apply_changes, other, changes)
                    else:
                        self.assert_result(model.changed(other, changes), apply_changes, other, changes)

    def test_2000_entries_and_2001(self):
        self.assert_result(WHOLE[1:] + (("a", 0),), apply_changes, WHOLE, ((0, 0, None), ("a", None, 0)))
        self.assert_result(((-1, 0),) + WHOLE[:-1], apply_changes, WHOLE, ((-1, None, 0), (1999, -1999, None)))
        self.assert_refused(TooManyElements(2001), apply_changes, WHOLE, (("a", None, 0),))
        self.assert_refused(TooManyElements(2001), apply_changes, WHOLE, ((0, 0, None), ("a", None, 0), ("b", None, 0)))
        changes = tuple((key, None, value) for key, value in WORDS)
        self.assert_result(WORDS, apply_changes, (), changes)
        self.assert_refused(TooManyElements(4000), apply_changes, WHOLE, changes)

    def test_4000_changes(self):
        changes = changes_between(WHOLE, WORDS)
        self.assert_result(WORDS, apply_changes, WHOLE, changes)

    def test_a_change_that_does_not_apply_comes_before_too_many_entries(self):
        changes = tuple((key, None, value) for key, value in WORDS) + (("x", 5, 6),)
        self.assert_refused(ChangeDoesNotApply(2000), apply_changes, WHOLE, changes)


class InvertedTest(RowCase):
    def test_ordinary_ones(self):
        self.assert_result((("a", 10, 1), ("c", None, 3), ("d", "x", None)), inverted,
                           (("a", 1, 10), ("c", 3, None), ("d", None, "x")))

    def test_no_changes(self):
        self.assert_result((), inverted, ())

    def test_they_lead_back(self):
        for first in MAPS:
            for second in MAPS:
                changes = changes_between(first, second)
                self.assert_result(changes_between(second, first), inverted, changes)
                self.assertEqual(apply_changes(second, inverted(changes)), first)

    def test_4000_changes(self):
        self.assert_result(changes_between(WORDS, WHOLE), inverted, changes_between(WHOLE, WORDS))


class ComposedTest(RowCase):
    def test_the_examples(self):
        self.assert_result((("b", 2, 0), ("c", 3, None)), composed, (("a", 1, 10), ("c", 3, None)),
                           (("a", 10, 1), ("b", 2, 0)))

    def test_no_changes(self):
        changes = (("a", 1, 10), ("c", 3, None))
        self.assert_result((), composed, (), ())
        self.assert_result(changes, composed, changes, ())
        self.assert_result(changes, composed, (), changes)

    def test_a_key_in_both(self):
        self.assert_result((("a", 1, 3),), composed, (("a", 1, 2),), (("a", 2, 3),))
        self.assert_result((("a", None, 3),), composed, (("a", None, 2),), (("a", 2, 3),))
        self.assert_result((("a", 1, None),), composed, (("a", 1, 2),), (("a", 2, None),))
        self.assert_result((("a", 1, 3),), composed, (("a", 1, None),), (("a", None, 3),))
        self.assert_result((("a", 1, "1"),), composed, (("a", 1, None),), (("a", None, "1"),))

    def test_a_key_whose_two_ends_are_equal(self):
        self.assert_result((), composed, (("a", 1, 2),), (("a", 2, 1),))
        self.assert_result((), composed, (("a", None, 2),), (("a", 2, None),))
        self.assert_result((), composed, (("a", 1, None),), (("a", None, 1),))

    def test_the_order_of_the_keys(self):
        self.assert_result(((1, 0, 1), (2, 0, 1), ("", 0, 1), ("a", 0, 1)), composed, ((2, 0, 1), ("", 0, 1)),
                           ((1, 0, 1), ("a", 0, 1)))

    def test_changes_that_do_not_follow(self):
        for after, before in ((2, 3), (2, None), (None, 2), (2, "2"), (None, 0), ("", None), (0, "")):
            self.assert_refused(ChangesDoNotFollow(), composed, (("a", 1, after),), (("a", before, 9),))
        self.assert_refused(ChangesDoNotFollow(), composed, (("a", 1, 2), ("b", 1, 2), ("c", 1, 2)),
                            (("a", 2, 3), ("b", 2, 3), ("c", 1, 3)))
        self.assert_refused(ChangesDoNotFollow(), composed, (("a", 1, 2),), (("a", 1, 2),))

    def test_any_changes(self):
        for first in MAPS[::2]:
            for second in MAPS[::3]:
                for third in MAPS[::5]:
                    self.assert_result(model.changes_between(first, third), composed, changes_between(first, second),
                                       changes_between(second, third))

    def test_more_than_4000_changes(self):
        first = changes_between(WHOLE, WORDS)
        second = tuple((f"{key}x", None, value) for key, value in WORDS)
        expected = tuple(sorted(first[2000:] + second, key=lambda change: change[0]))
        self.assert_result(first[:2000] + expected, composed, first, second)
        self.assert_result(first[:2000] + expected, composed, second, first)


if __name__ == "__main__":
    unittest.main()
