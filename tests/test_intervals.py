import unittest

from sameshape.errors import EmptyInterval, IntervalOutOfRange, TooManyElements
from sameshape.intervals import (common_numbers, grown, intervals_of, other_numbers, shifted, shrunk, united,
                                 with_interval, without_interval)
from tests import collections_model as model
from tests.samples import FAR, SETS, any_intervals
from tests.support import RowCase

MADE = ((0, 3), (5, 6), (8, 9), (12, 20))
OTHER = ((2, 6), (15, 30))
WHOLE = tuple((3 * place, 3 * place + 2) for place in range(2000))
END = WHOLE[-1][1]


class MakingTest(RowCase):
    def test_the_examples(self):
        self.assert_result(MADE, intervals_of, ((8, 9), (0, 2), (12, 20), (5, 6), (1, 3)))

    def test_no_intervals_and_one(self):
        self.assert_result((), intervals_of, ())
        self.assert_result(((-1, 0),), intervals_of, ((-1, 0),))
        self.assert_result(((-FAR, FAR),), intervals_of, ((-FAR, FAR),))

    def test_intervals_that_touch(self):
        self.assert_result(((1, 5),), intervals_of, ((1, 3), (3, 5)))
        self.assert_result(((1, 5),), intervals_of, ((3, 5), (1, 3)))
        self.assert_result(((1, 5),), intervals_of, ((3, 4), (4, 5), (1, 2), (2, 3)))
        self.assert_result(((1, 3), (4, 5)), intervals_of, ((1, 3), (4, 5)))

    def test_intervals_that_overlap(self):
        self.assert_result(((1, 6),), intervals_of, ((1, 4), (3, 6)))
        self.assert_result(((1, 6),), intervals_of, ((3, 6), (1, 4)))

    def test_intervals_that_contain_one_another(self):
        self.assert_result(((1, 9),), intervals_of, ((1, 9), (2, 3), (5, 9), (1, 4)))
        self.assert_result(((1, 9),), intervals_of, ((2, 3), (5, 9), (1, 4), (1, 9)))
        self.assert_result(((1, 9), (10, 11)), intervals_of, ((10, 11), (1, 9), (2, 3)))

    def test_the_same_interval_twice(self):
        self.assert_result(((1, 3), (5, 6)), intervals_of, ((5, 6), (1, 3), (5, 6), (1, 3)))

    def test_any_intervals(self):
        for seed in range(120):
            intervals = any_intervals(seed % 12, seed)
            self.assert_result(model.intervals_with(model.numbers_of(intervals)), intervals_of, intervals)

    def test_an_empty_interval(self):
        for empty in ((3, 3), (4, 3), (FAR, -FAR), (0, 0)):
            self.assert_refused(EmptyInterval(), intervals_of, (empty,))
            self.assert_refused(EmptyInterval(), intervals_of, ((0, 9), (10, 11), empty))
            self.assert_refused(EmptyInterval(), intervals_of, (empty, (0, 9)))

    def test_2000_intervals_and_one_more(self):
        self.assert_result(WHOLE, intervals_of, WHOLE[::-1])
        self.assert_result(((0, 2000),), intervals_of, tuple((place, place + 1) for place in range(2000)))
        self.assert_result(WHOLE, intervals_of, WHOLE + ((0, 1),))
        self.assert_refused(TooManyElements(2001), intervals_of, WHOLE + ((-2, -1),))
        self.assert_refused(EmptyInterval(), intervals_of, WHOLE + ((-2, -1), (5, 5)))


class WithTest(RowCase):
    def test_ordinary_ones(self):
        self.assert_result(((1, 2),), with_interval, (), 1, 2)
        self.assert_result(((0, 3), (5, 6), (8, 10), (12, 20)), with_interval, MADE, 9, 10)
        self.assert_result(((0, 3), (5, 9), (12, 20)), with_interval, MADE, 6, 8)
        self.assert_result(((0, 20),), with_interval, MADE, 2, 13)
        self.assert_result(MADE, with_interval, MADE, 13, 19)
        self.assert_result(((-5, -1),) + MADE, with_interval, MADE, -5, -1)
        self.assert_result(((-5, 3),) + MADE[1:], with_interval, MADE, -5, 0)
        self.assert_result(MADE + ((21, 22),), with_interval, MADE, 21, 22)
        self.assert_result(((-FAR, FAR),), with_interval, MADE, -FAR, FAR)

    def test_any_intervals(self):
        for contents in SETS:
            for start in range(-17, 24, 3):
                for many in (1, 2, 5, 30):
                    numbers = model.numbers_of(contents + ((start, start + many),))
                    self.assert_result(model.intervals_with(numbers), with_interval, contents, start, start + many)

    def test_an_empty_interval(self):
        for contents in ((), MADE):
            self.assert_refused(EmptyInterval(), with_interval, contents, 1, 1)
            self.assert_refused(EmptyInterval(), with_interval, contents, 7, 6)
            self.assert_refused(EmptyInterval(), with_interval, contents, FAR, -FAR)

    def test_2000_intervals_and_one_more(self):
        self.assert_result(WHOLE, with_interval, WHOLE[:9] + WHOLE[10:], 27, 29)
        self.assert_result(WHOLE[:-1] + ((5997, 6000),), with_interval, WHOLE, 5999, 6000)
        self.assert_refused(TooManyElements(2001), with_interval, WHOLE, 6000, 6001)
        self.assert_refused(EmptyInterval(), with_interval, WHOLE, 6000, 6000)


class WithoutTest(RowCase):
    def test_ordinary_ones(self):
        self.assert_result((), without_interval, (), 1, 2)
        self.assert_result(MADE, without_interval, MADE, 3, 5)
        self.assert_result(MADE, without_interval, MADE, -5, 0)
        self.assert_result(MADE, without_interval, MADE, 20, 25)
        self.assert_result(((0, 2), (13, 20)), without_interval, MADE, 2, 13)
        self.assert_result(((0, 3), (8, 9), (12, 20)), without_interval, MADE, 5, 6)
        self.assert_result((), without_interval, MADE, -FAR, FAR)

    def test_a_number_that_splits_an_interval(self):
        self.assert_result(((0, 1), (2, 3)) + MADE[1:], without_interval, MADE, 1, 2)
        self.assert_result(MADE[:3] + ((12, 15), (16, 20)), without_interval, MADE, 15, 16)
        self.assert_result(MADE[:3] + ((12, 13), (19, 20)), without_interval, MADE, 13, 19)

    def test_any_intervals(self):
        for contents in SETS:
            for start in range(-17, 24, 3):
                for many in (1, 2, 5, 30):
                    numbers = model.numbers_of(contents) - set(range(start, start + many))
                    self.assert_result(model.intervals_with(numbers), without_interval, contents, start, start + many)

    def test_an_empty_interval(self):
        for contents in ((), MADE):
            self.assert_refused(EmptyInterval(), without_interval, contents, 1, 1)
            self.assert_refused(EmptyInterval(), without_interval, contents, 7, 6)

    def test_2000_intervals_and_one_more(self):
        whole = WHOLE[:-1] + ((5997, 6004),)
        self.assert_result(whole[:-1] + ((5997, 6003),), without_interval, whole, 6003, 6004)
        self.assert_refused(TooManyElements(2001), without_interval, whole, 6000, 6001)
        self.assert_refused(EmptyInterval(), without_interval, whole, 6000, 6000)


class ShiftedTest(RowCase):
    def test_ordinary_ones(self):
        self.assert_result(((7, 10), (12, 13), (15, 16), (19, 27)), shifted, MADE, 7)
        self.assert_result(((-7, -4), (-2, -1), (1, 2), (5, 13)), shifted, MADE, -7)
        self.assert_result(MADE, shifted, MADE, 0)

    def test_any_sets(self):
        for contents in SETS:
            for by in range(-20, 21, 4):
                numbers = {number + by for number in model.numbers_of(contents)}
                self.assert_result(model.intervals_with(numbers), shifted, contents, by)

    def test_no_numbers(self):
        for by in (-FAR, -1, 0, 1, FAR):
            self.assert_result((), shifted, (), by)

    def test_to_the_greatest_integer_and_one_beyond(self):
        by = FAR - 20
        self.assert_result(((by, by + 3), (by + 5, by + 6), (by + 8, by + 9), (by + 12, FAR)), shifted, MADE, by)
        self.assert_refused(IntervalOutOfRange(), shifted, MADE, by + 1)
        self.assert_refused(IntervalOutOfRange(), shifted, ((FAR - 1, FAR),), 1)
        self.assert_refused(IntervalOutOfRange(), shifted, MADE, FAR)

    def test_to_the_least_integer_and_one_beyond(self):
        contents = ((5, 6), (9, 12))
        self.assert_result(((-FAR, 1 - FAR), (4 - FAR, 7 - FAR)), shifted, contents, -FAR - 5)
        self.assert_result(((-FAR, 3 - FAR), (5 - FAR, 6 - FAR), (8 - FAR, 9 - FAR), (12 - FAR, 20 - FAR)), shifted,
                           MADE, -FAR)
        self.assert_refused(IntervalOutOfRange(), shifted, ((-1, 6),), -FAR)
        self.assert_refused(IntervalOutOfRange(), shifted, ((-FAR, FAR),), -1)
        self.assert_refused(IntervalOutOfRange(), shifted, ((-FAR, FAR),), 1)
        self.assert_result(((-FAR, 0),), shifted, ((0, FAR),), -FAR)

    def test_2000_intervals(self):
        self.assert_result(tuple((start + 5, end + 5) for start, end in WHOLE), shifted, WHOLE, 5)


class GrownTest(RowCase):
    def test_the_examples(self):
        self.assert_result(((-1, 22),), grown, MADE, 1, 2)

    def test_growing_that_joins_intervals(self):
        self.assert_result(((0, 4), (5, 7), (8, 10), (12, 21)), grown, MADE, 0, 1)
        self.assert_result(((-1, 3), (4, 6), (7, 9), (11, 20)), grown, MADE, 1, 0)
        self.assert_result(((-2, 9), (10, 20)), grown, MADE, 2, 0)
        self.assert_result(((-1, 10), (11, 21)), grown, MADE, 1, 1)

    def test_growing_by_nothing(self):
        self.assert_result(MADE, grown, MADE, 0, 0)
        self.assert_result((), grown, (), 0, 0)

    def test_any_sets(self):
        for contents in SETS:
            for before in range(5):
                for after in range(5):
                    numbers = {other for number in model.numbers_of(contents)
                               for other in range(number - before, number + after + 1)}
                    self.assert_result(model.intervals_with(numbers), grown, contents, before, after)

    def test_no_numbers(self):
        self.assert_result((), grown, (), FAR, FAR)
        self.assert_result((), grown, (), 0, FAR)

    def test_to_the_greatest_integer_and_one_beyond(self):
        self.assert_result(((0, FAR),), grown, MADE, 0, FAR - 20)
        self.assert_refused(IntervalOutOfRange(), grown, MADE, 0, FAR - 19)
        self.assert_refused(IntervalOutOfRange(), grown, ((FAR - 1, FAR),), 0, 1)
        self.assert_refused(IntervalOutOfRange(), grown, ((-FAR, 1 - FAR), (5, FAR)), 0, 1)

    def test_to_the_least_integer_and_one_beyond(self):
        self.assert_result(((-FAR, 20),), grown, MADE, FAR, 0)
        self.assert_refused(IntervalOutOfRange(), grown, ((-1, 5),), FAR, 0)
        self.assert_refused(IntervalOutOfRange(), grown, ((-FAR, 5), (7, FAR)), 1, 0)
        self.assert_result(((-FAR, FAR),), grown, ((0, 1),), FAR, FAR - 1)
        self.assert_refused(IntervalOutOfRange(), grown, ((0, 1),), FAR, FAR)

    def test_2000_intervals(self):
        self.assert_result(((0, END + 1),), grown, WHOLE, 0, 1)
        far = tuple((9 * place, 9 * place + 2) for place in range(2000))
        self.assert_result(tuple((start - 3, end + 3) for start, end in far), grown, far, 3, 3)


class ShrunkTest(RowCase):
    def test_the_examples(self):
        self.assert_result(((1, 3), (13, 20)), shrunk, MADE, 1, 0)

    def test_shrinking_that_removes_intervals(self):
        self.assert_result(((0, 2), (12, 19)), shrunk, MADE, 0, 1)
        self.assert_result(((1, 2), (13, 19)), shrunk, MADE, 1, 1)
        self.assert_result(((14, 19),), shrunk, MADE, 2, 1)
        self.assert_result(((16, 17),), shrunk, MADE, 4, 3)
        self.assert_result((), shrunk, MADE, 4, 4)
        self.assert_result((), shrunk, MADE, FAR, 0)
        self.assert_result((), shrunk, MADE, FAR, FAR)

    def test_shrinking_by_nothing(self):
        self.assert_result(MADE, shrunk, MADE, 0, 0)

    def test_no_numbers(self):
        self.assert_result((), shrunk, (), 0, 0)
        self.assert_result((), shrunk, (), FAR, 1)

    def test_the_whole_range(self):
        self.assert_result(((0, FAR),), shrunk, ((-FAR, FAR),), FAR, 0)
        self.assert_result(((-FAR, 0),), shrunk, ((-FAR, FAR),), 0, FAR)
        self.assert_result(((0, 1),), shrunk, ((-FAR, FAR),), FAR, FAR - 1)
        self.assert_result((), shrunk, ((-FAR, FAR),), FAR, FAR)

    def test_any_sets(self):
        for contents in SETS:
            numbers = model.numbers_of(contents)
            for before in range(4):
                for after in range(4):
                    left = {number for number in range(-40, 60)
                            if all(other in numbers for other in range(number - before, number + after + 1))}
                    self.assert_result(model.intervals_with(left), shrunk, contents, before, after)

    def test_2000_intervals(self):
        self.assert_result(tuple((start + 1, end) for start, end in WHOLE), shrunk, WHOLE, 1, 0)


class CombinedTest(RowCase):
    def check(self, first, second):
        ours = model.numbers_of(first)
        theirs = model.numbers_of(second)
        self.assert_result(model.intervals_with(ours | theirs), united, first, second)
        self.assert_result(model.intervals_with(ours & theirs), common_numbers, first, second)
        self.assert_result(model.intervals_with(ours - theirs), other_numbers, first, second)

    def test_the_examples(self):
        self.assert_result(((2, 3), (5, 6), (15, 20)), common_numbers, MADE, OTHER)
        self.assert_result(((0, 2), (8, 9), (12, 15)), other_numbers, MADE, OTHER)
        self.assert_result(((0, 6), (8, 9), (12, 30)), united, MADE, OTHER)

    def test_no_numbers(self):
        for first, second, both in (((), (), ()), (MADE, (), MADE), ((), MADE, MADE)):
            self.assert_result(both, united, first, second)
            self.assert_result((), common_numbers, first, second)
            self.assert_result(first, other_numbers, first, second)

    def test_equal_sets(self):
        self.assert_result(MADE, united, MADE, MADE)
        self.assert_result(MADE, common_numbers, MADE, MADE)
        self.assert_result((), other_numbers, MADE, MADE)

    def test_sets_that_touch(self):
        self.assert_result(((0, 9),), united, ((0, 3), (5, 6)), ((3, 5), (6, 9)))
        self.assert_result((), common_numbers, ((0, 3), (5, 6)), ((3, 5), (6, 9)))
        self.assert_result(((0, 3), (5, 6)), other_numbers, ((0, 3), (5, 6)), ((3, 5), (6, 9)))

    def test_any_sets(self):
        for first in SETS:
            for second in SETS:
                self.check(first, second)

    def test_far_intervals(self):
        whole = ((-FAR, FAR),)
        self.assert_result(whole, united, MADE, whole)
        self.assert_result(MADE, common_numbers, MADE, whole)
        self.assert_result((), other_numbers, MADE, whole)
        self.assert_result(((-FAR, 0), (3, 5), (6, 8), (9, 12), (20, FAR)), other_numbers, whole, MADE)

    def test_2000_intervals_and_one_more(self):
        self.check(WHOLE, WHOLE[500:1500])
        self.check(WHOLE[:1000], WHOLE[1000:])
        self.check(WHOLE, tuple((start + 1, end + 1) for start, end in WHOLE))
        self.assert_result(WHOLE, united, WHOLE[::2], WHOLE[1::2])
        self.assert_refused(TooManyElements(2001), united, WHOLE, ((-5, -4),))
        self.assert_refused(TooManyElements(4000), united, WHOLE, shifted(WHOLE, -9000))

    def test_2001_intervals_of_common_and_other_numbers(self):
        # A long interval of the one set over the last intervals of the other one.
        first = WHOLE[:1000] + ((3000, 9000),)
        second = ((0, 3000),) + tuple((3 * place, 3 * place + 2) for place in range(1001, 2002))
        self.assert_refused(TooManyElements(2001), common_numbers, first, second)
        self.assert_refused(TooManyElements(2001), common_numbers, second, first)
        self.assertEqual(len(common_numbers(first, second[:-1])), 2000)
        self.assert_refused(TooManyElements(2001), other_numbers, ((-1, 9000),), WHOLE[:1000] + second[1:-1])
        self.assertEqual(len(other_numbers(((-1, 9000),), WHOLE[:1000] + second[1:-2])), 2000)


if __name__ == "__main__":
    unittest.main()
