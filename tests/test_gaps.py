import unittest

from sameshape.errors import TooManyElements
from sameshape.gaps import contains, first_fit, gaps_of, many_between, next_gap, next_number
from tests import collections_model as model
from tests.samples import FAR, SETS
from tests.support import RowCase

MADE = ((0, 3), (5, 6), (8, 9), (12, 20))
WHOLE = tuple((3 * place, 3 * place + 2) for place in range(2000))
EVERYTHING = ((-FAR, FAR),)


class AskingTest(RowCase):
    def test_the_examples(self):
        self.assert_result(8, many_between, MADE, 0, 15)
        self.assert_result(5, next_number, MADE, 3)
        self.assert_result(3, next_gap, MADE, 0)

    def check(self, number, belongs, following, gap):
        self.assertIs(contains(MADE, number), belongs)
        self.assert_result(following, next_number, MADE, number)
        self.assert_result(gap, next_gap, MADE, number)

    def test_at_a_start(self):
        self.check(0, True, 0, 3)
        self.check(5, True, 5, 6)
        self.check(12, True, 12, 20)

    def test_just_before_an_end(self):
        self.check(2, True, 2, 3)
        self.check(19, True, 19, 20)

    def test_at_an_end(self):
        self.check(3, False, 5, 3)
        self.check(6, False, 8, 6)
        self.check(20, False, None, 20)

    def test_before_all_and_behind_all(self):
        self.check(-1, False, 0, -1)
        self.check(-FAR, False, 0, -FAR)
        self.check(21, False, None, 21)
        self.check(FAR, False, None, FAR)

    def test_between_two_intervals(self):
        self.check(4, False, 5, 4)
        self.check(10, False, 12, 10)

    def test_no_numbers(self):
        for number in (-FAR, 0, FAR):
            self.assertIs(contains((), number), False)
            self.assert_result(None, next_number, (), number)
            self.assert_result(number, next_gap, (), number)
        self.assert_result(0, many_between, (), -FAR, FAR)

    def test_the_whole_range(self):
        self.assertIs(contains(EVERYTHING, -FAR), True)
        self.assertIs(contains(EVERYTHING, FAR), False)
        self.assert_result(-FAR, next_number, EVERYTHING, -FAR)
        self.assert_result(None, next_number, EVERYTHING, FAR)
        self.assert_result(FAR, next_gap, EVERYTHING, -FAR)
        self.assert_result(2 * FAR, many_between, EVERYTHING, -FAR, FAR)

    def test_any_sets(self):
        for contents in SETS:
            numbers = model.numbers_of(contents)
            for number in range(-17, 26):
                self.assertIs(contains(contents, number), number in numbers)
                self.assert_result(min([other for other in numbers if other >= number], default=None), next_number,
                                   contents, number)
                self.assert_result(min(set(range(number, 40)) - numbers), next_gap, contents, number)

    def test_2000_intervals(self):
        for place in range(0, 2000, 77):
            self.assertIs(contains(WHOLE, 3 * place + 1), True)
            self.assertIs(contains(WHOLE, 3 * place + 2), False)
            self.assert_result(3 * place, next_number, WHOLE, 3 * place - 1)
            self.assert_result(3 * place + 2, next_gap, WHOLE, 3 * place)
        self.assert_result(4000, many_between, WHOLE, -5, 6000)
        self.assert_result(3998, many_between, WHOLE, 1, 5998)


class ManyBetweenTest(RowCase):
    def test_edges(self):
        for start, end, many in ((0, 3, 3), (-5, 0, 0), (3, 5, 0), (3, 6, 1), (2, 6, 2), (1, 2, 1), (5, 6, 1),
                                 (19, 99, 1), (20, 99, 0), (-FAR, FAR, 13), (13, 15, 2), (8, 13, 2)):
            self.assert_result(many, many_between, MADE, start, end)

    def test_an_empty_interval(self):
        for start, end in ((1, 1), (15, 13), (20, 0), (FAR, -FAR), (3, 3), (9, 8)):
            self.assert_result(0, many_between, MADE, start, end)

    def test_any_sets(self):
        for contents in SETS:
            numbers = model.numbers_of(contents)
            for start in range(-17, 26, 2):
                for end in range(-17, 26, 3):
                    many = len([number for number in numbers if start <= number < end])
                    self.assert_result(many, many_between, contents, start, end)


class GapsTest(RowCase):
    def test_the_examples(self):
        self.assert_result(((4, 5), (6, 8), (9, 12)), gaps_of, MADE, 4, 13)

    def test_an_empty_interval(self):
        for start, end in ((4, 4), (5, 4), (0, 0), (20, -3), (FAR, -FAR), (1, 1)):
            self.assert_result((), gaps_of, MADE, start, end)
        self.assert_result((), gaps_of, (), 3, 3)

    def test_no_numbers(self):
        self.assert_result(((3, 7),), gaps_of, (), 3, 7)
        self.assert_result(EVERYTHING, gaps_of, (), -FAR, FAR)

    def test_before_all_and_behind_all(self):
        self.assert_result(((-9, -3),), gaps_of, MADE, -9, -3)
        self.assert_result(((-9, 0),), gaps_of, MADE, -9, 0)
        self.assert_result(((-9, 0),), gaps_of, MADE, -9, 2)
        self.assert_result(((20, 25),), gaps_of, MADE, 15, 25)
        self.assert_result(((20, 25),), gaps_of, MADE, 20, 25)
        self.assert_result(((22, 25),), gaps_of, MADE, 22, 25)

    def test_within_the_set(self):
        self.assert_result((), gaps_of, MADE, 0, 3)
        self.assert_result((), gaps_of, MADE, 13, 19)
        self.assert_result(((10, 11),), gaps_of, MADE, 10, 11)
        self.assert_result(((3, 5),), gaps_of, MADE, 1, 6)

    def test_the_whole_range(self):
        self.assert_result(((-FAR, 0), (3, 5), (6, 8), (9, 12), (20, FAR)), gaps_of, MADE, -FAR, FAR)
        self.assert_result((), gaps_of, EVERYTHING, -FAR, FAR)

    def test_any_sets(self):
        for contents in SETS:
            numbers = model.numbers_of(contents)
            for start in range(-18, 24, 3):
                for end in range(-18, 26, 4):
                    gaps = set(range(start, end)) - numbers
                    self.assert_result(model.intervals_with(gaps), gaps_of, contents, start, end)

    def test_2000_gaps_and_one_more(self):
        expected = tuple((3 * place - 1, 3 * place) for place in range(2000))
        self.assert_result(expected, gaps_of, WHOLE, -1, 5999)
        self.assert_result(expected[1:] + ((5999, 6000),), gaps_of, WHOLE, 0, 6000)
        self.assert_refused(TooManyElements(2001), gaps_of, WHOLE, -1, 6000)
        self.assert_refused(TooManyElements(2001), gaps_of, WHOLE, -FAR, FAR)


class FirstFitTest(RowCase):
    def test_the_examples(self):
        self.assert_result(9, first_fit, MADE, 3, 0, 20)

    def test_the_size_1(self):
        for start, place in ((-1, -1), (0, 3), (2, 3), (4, 4), (5, 6), (8, 9), (12, 20), (19, 20), (20, 20), (22, 22)):
            self.assert_result(place, first_fit, MADE, 1, start, 30)

    def test_a_size_that_just_fits_and_one_that_does_not(self):
        self.assert_result(9, first_fit, MADE, 3, 1, 12)
        self.assert_result(None, first_fit, MADE, 4, 1, 12)
        self.assert_result(20, first_fit, MADE, 4, 1, 24)
        self.assert_result(None, first_fit, MADE, 4, 1, 23)
        self.assert_result(-4, first_fit, MADE, 4, -4, 30)
        self.assert_result(20, first_fit, MADE, 4, -3, 30)

    def test_at_the_end_of_the_interval(self):
        self.assert_result(9, first_fit, MADE, 2, 7, 11)
        self.assert_result(None, first_fit, MADE, 2, 7, 10)
        self.assert_result(19, first_fit, (), 2, 19, 21)
        self.assert_result(None, first_fit, (), 2, 19, 20)

    def test_an_empty_interval(self):
        for start, end in ((4, 4), (5, 4), (25, 20), (FAR, -FAR), (0, 0)):
            self.assert_result(None, first_fit, MADE, 1, start, end)
            self.assert_result(None, first_fit, (), 1, start, end)

    def test_the_greatest_sizes(self):
        self.assert_result(-FAR, first_fit, (), FAR, -FAR, FAR)
        self.assert_result(20, first_fit, MADE, FAR - 20, 0, FAR)
        self.assert_result(None, first_fit, MADE, FAR - 19, 0, FAR)
        self.assert_result(-FAR, first_fit, MADE, FAR, -FAR, 0)
        self.assert_result(None, first_fit, MADE, FAR, 1 - FAR, FAR)
        self.assert_result(None, first_fit, EVERYTHING, 1, -FAR, FAR)

    def test_any_sets(self):
        for contents in SETS:
            numbers = model.numbers_of(contents)
            for size in (1, 2, 3, 5, 9):
                for start in range(-18, 24, 3):
                    for end in range(-18, 26, 4):
                        fits = [place for place in range(start, end - size + 1)
                                if not numbers.intersection(range(place, place + size))]
                        self.assert_result(fits[0] if fits else None, first_fit, contents, size, start, end)

    def test_more_than_2000_gaps(self):
        self.assert_result(6001, first_fit, WHOLE[:-1] + ((5997, 6001),), 2, -1, FAR)
        self.assert_result(None, first_fit, WHOLE, 2, -1, 6000)
        self.assert_result(-1, first_fit, WHOLE, 1, -1, 6000)


if __name__ == "__main__":
    unittest.main()
