import unittest

from sameshape.errors import IndexOutOfRange, TooManyElements
from sameshape.sequences import (common_beginning, common_end, first_place, joined, part_of, places_of, repeated,
                                 spliced)
from tests.samples import LARGE, MIXED, SMALL, picked
from tests.support import RowCase

ABCD = ("a", "b", "c", "d")
LINE = tuple(range(2000))


class PartTest(RowCase):
    def test_the_examples(self):
        self.assert_refused(IndexOutOfRange(3), part_of, ("a", "b"), 1, 3)

    def test_parts(self):
        for contents in SMALL.values():
            many = len(contents)
            for start in range(0, many + 1, 7):
                for end in range(start, many + 1, 5):
                    expected = tuple(contents[place] for place in range(start, end))
                    self.assert_result(expected, part_of, contents, start, end)

    def test_edges(self):
        self.assert_result((), part_of, (), 0, 0)
        self.assert_result((), part_of, ABCD, 0, 0)
        self.assert_result((), part_of, ABCD, 4, 4)
        self.assert_result(("d",), part_of, ABCD, 3, 4)
        self.assert_result(ABCD, part_of, ABCD, 0, 4)
        self.assert_result(LINE, part_of, LINE, 0, 2000)

    def test_an_end_behind_the_contents(self):
        self.assert_refused(IndexOutOfRange(5), part_of, ABCD, 0, 5)
        self.assert_refused(IndexOutOfRange(1), part_of, (), 0, 1)
        self.assert_refused(IndexOutOfRange(1000000), part_of, ABCD, 4, 1000000)

    def test_a_start_behind_the_end(self):
        self.assert_refused(IndexOutOfRange(3), part_of, ABCD, 3, 2)
        self.assert_refused(IndexOutOfRange(5), part_of, ABCD, 5, 4)
        self.assert_refused(IndexOutOfRange(1000000), part_of, ABCD, 1000000, 0)

    def test_the_end_comes_first(self):
        self.assert_refused(IndexOutOfRange(5), part_of, ABCD, 7, 5)
        self.assert_refused(IndexOutOfRange(6), part_of, ABCD, 6, 6)


class SplicedTest(RowCase):
    def test_the_examples(self):
        self.assert_result(("a", "x", ("y", 1), "z", "d"), spliced, ABCD, 1, 2, ("x", ("y", 1), "z"))

    def test_splices(self):
        for contents in SMALL.values():
            many = len(contents)
            for start in range(0, many + 1, 7):
                for count in range(0, many - start + 1, 6):
                    expected = list(contents)
                    expected[start:start + count] = MIXED[:count % 5]
                    self.assert_result(tuple(expected), spliced, contents, start, count, MIXED[:count % 5])

    def test_edges(self):
        self.assert_result((), spliced, (), 0, 0, ())
        self.assert_result((1,), spliced, (), 0, 0, (1,))
        self.assert_result(ABCD, spliced, ABCD, 2, 0, ())
        self.assert_result(ABCD + ("e",), spliced, ABCD, 4, 0, ("e",))
        self.assert_result(("e",) + ABCD, spliced, ABCD, 0, 0, ("e",))
        self.assert_result((), spliced, ABCD, 0, 4, ())
        self.assert_result(("a", "b", "c"), spliced, ABCD, 3, 1, ())

    def test_a_start_behind_the_contents(self):
        self.assert_refused(IndexOutOfRange(5), spliced, ABCD, 5, 0, ())
        self.assert_refused(IndexOutOfRange(5), spliced, ABCD, 5, 1, ())
        self.assert_refused(IndexOutOfRange(1000000), spliced, ABCD, 1000000, 1000000, ())
        self.assert_refused(IndexOutOfRange(1), spliced, (), 1, 0, ())

    def test_an_end_behind_the_contents(self):
        self.assert_refused(IndexOutOfRange(5), spliced, ABCD, 4, 1, ())
        self.assert_refused(IndexOutOfRange(5), spliced, ABCD, 0, 5, ("x",))
        self.assert_refused(IndexOutOfRange(1000003), spliced, ABCD, 3, 1000000, ())

    def test_2000_elements_and_2001(self):
        self.assert_result(LINE, spliced, LINE[:-1], 1999, 0, (1999,))
        self.assert_result(LINE, spliced, LINE, 5, 3, (5, 6, 7))
        self.assert_result(LINE, spliced, (), 0, 0, LINE)
        self.assert_refused(TooManyElements(2001), spliced, LINE, 0, 0, ("x",))
        self.assert_refused(TooManyElements(2001), spliced, LINE, 1000, 1, ("x", "y"))
        self.assert_refused(TooManyElements(4000), spliced, LINE, 2000, 0, LINE)

    def test_an_index_comes_before_too_many_elements(self):
        self.assert_refused(IndexOutOfRange(2001), spliced, LINE, 2001, 0, LINE)
        self.assert_refused(IndexOutOfRange(2001), spliced, LINE, 2000, 1, LINE)


class RepeatedTest(RowCase):
    def test_ordinary_ones(self):
        for contents in SMALL.values():
            self.assert_result(contents + contents + contents, repeated, contents, 3)

    def test_edges(self):
        self.assert_result((), repeated, (), 0)
        self.assert_result((), repeated, (), 2000)
        self.assert_result((), repeated, LINE, 0)
        self.assert_result(LINE, repeated, LINE, 1)
        self.assert_result(("a",) * 2000, repeated, ("a",), 2000)

    def test_2000_elements_and_2001(self):
        self.assert_result(LINE[:1000] * 2, repeated, LINE[:1000], 2)
        self.assert_refused(TooManyElements(2001), repeated, LINE[:667], 3)
        self.assert_refused(TooManyElements(2001), repeated, (1, 2, 3), 667)
        self.assert_refused(TooManyElements(4000), repeated, LINE, 2)
        self.assert_refused(TooManyElements(4000000), repeated, LINE, 2000)


class JoinedTest(RowCase):
    def test_ordinary_ones(self):
        self.assert_result((1, 2, "a", (1, 2)), joined, (1, 2), ("a", (1, 2)))
        self.assert_result((1, 2, 1, 2), joined, (1, 2), (1, 2))

    def test_no_elements(self):
        self.assert_result((), joined, (), ())
        self.assert_result(ABCD, joined, ABCD, ())
        self.assert_result(ABCD, joined, (), ABCD)
        self.assert_result(LINE, joined, LINE, ())

    def test_2000_elements_and_2001(self):
        self.assert_result(LINE, joined, LINE[:999], LINE[999:])
        self.assert_refused(TooManyElements(2001), joined, LINE, (1,))
        self.assert_refused(TooManyElements(2001), joined, (1,), LINE)
        self.assert_refused(TooManyElements(4000), joined, LINE, LINE)


class FirstPlaceTest(RowCase):
    def test_the_examples(self):
        self.assert_result(None, first_place, ("a", "b", "c"), "b", 2)

    def test_places(self):
        for contents in SMALL.values():
            for element in MIXED:
                for start in range(0, len(contents) + 3, 4):
                    places = [place for place, other in enumerate(contents) if place >= start and other == element]
                    self.assert_result(places[0] if places else None, first_place, contents, element, start)

    def test_the_place_of_the_start(self):
        self.assert_result(1, first_place, ("a", "b", "c"), "b", 1)
        self.assert_result(1, first_place, ("a", "b", "b"), "b", 0)
        self.assert_result(0, first_place, ("a", "b", "b"), "a", 0)
        self.assert_result(2, first_place, ("a", "b", "b"), "b", 2)

    def test_a_start_behind_the_contents(self):
        for start in (3, 4, 2000, 1000000):
            self.assert_result(None, first_place, ("a", "b", "b"), "b", start)
        self.assert_result(None, first_place, (), "b", 0)
        self.assert_result(None, first_place, (), "b", 1)

    def test_different_kinds_are_not_equal(self):
        contents = (1, "1", (1, 1), ("1", 1), (1, "1"), "")
        for place, element in enumerate(contents):
            self.assert_result(place, first_place, contents, element, 0)


class PlacesTest(RowCase):
    def test_the_examples(self):
        self.assert_result((0, 1, 4), places_of, (1, 1, 1, 2, 1, 1), (1, 1))

    def test_places(self):
        for seed in range(60):
            contents = picked(seed, (0, 1, (0, 1)), seed)
            pattern = picked(1 + seed % 4, (0, 1, (0, 1)), 100 + seed)
            expected = []
            for place in range(len(contents)):
                if list(contents[place:place + len(pattern)]) == list(pattern):
                    expected.append(place)
            self.assert_result(tuple(expected), places_of, contents, pattern)

    def test_a_pattern_that_does_not_occur(self):
        self.assert_result((), places_of, (1, 2, 3), (3, 2))
        self.assert_result((), places_of, (1, 2, 3), ("1",))
        self.assert_result((), places_of, (), (1,))

    def test_a_pattern_as_long_as_the_contents_and_longer(self):
        self.assert_result((0,), places_of, (1, 2), (1, 2))
        self.assert_result((), places_of, (1, 2), (1, 2, 1))
        self.assert_result((), places_of, (1, 2), (1, 2) * 500)
        self.assert_result((), places_of, (), (1, 2))

    def test_the_first_and_the_last_place(self):
        self.assert_result((0, 3), places_of, ("a", "b", "c", "a"), ("a",))
        self.assert_result((2,), places_of, ("a", "b", "c", "a"), ("c", "a"))

    def test_2000_elements(self):
        self.assert_result(tuple(range(1001)), places_of, (7,) * 2000, (7,) * 1000)
        contents = (("a" * 20, "b" * 20),) * 1999 + (("a" * 20, "c" * 20),)
        self.assert_result((1000,), places_of, contents, contents[1000:])
        self.assert_result((0, 400, 800, 1200, 1600), places_of, LARGE["a part that is repeated"],
                           LARGE["a part that is repeated"][:400])


class CommonTest(RowCase):
    def check(self, beginning, end, first, second):
        self.assert_result(beginning, common_beginning, first, second)
        self.assert_result(beginning, common_beginning, second, first)
        self.assert_result(end, common_end, first, second)
        self.assert_result(end, common_end, second, first)

    def test_the_examples(self):
        self.check(0, 2, ABCD, ("c", "d"))

    def test_equal_contents(self):
        for contents in list(SMALL.values()) + list(LARGE.values()):
            self.check(len(contents), len(contents), contents, tuple(list(contents)))

    def test_no_elements(self):
        self.check(0, 0, (), ())
        self.check(0, 0, (), ABCD)

    def test_one_is_a_part_of_the_other_one(self):
        self.check(2, 0, ABCD, ABCD[:2])
        self.check(0, 0, ABCD, ABCD[1:3])
        self.check(3, 3, (7, 7, 7), (7, 7, 7, 7))

    def test_other_contents(self):
        self.check(1, 2, (1, 2, 3, 4), (1, 5, 3, 4))
        self.check(0, 3, (1, 2, 3, 4), ("1", 2, 3, 4))
        self.check(3, 0, ((1, 2), 3, 4, 5), ((1, 2), 3, 4, (5, 5)))
        self.check(1999, 0, LINE, LINE[:-1] + ("x",))
        self.check(0, 0, (1, 2), (2, 1))


if __name__ == "__main__":
    unittest.main()
