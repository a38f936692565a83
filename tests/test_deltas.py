import unittest

from sameshape.deltas import apply_delta, find_delta
from sameshape.errors import DeltaTooLarge, InvalidPiece, TooManyElements
from tests import collections_model as model
from tests.samples import LARGE, MIXED, SMALL, picked
from tests.support import RowCase

BASES = ((1, 2, 3), (), (4, 5))
LINE = tuple(range(2000))


class ApplyTest(RowCase):
    def test_the_examples(self):
        delta = (("copy", 1, 0, 2), ("insert", ("p", "q")), ("copy", 0, 0, 1))
        self.assert_result((4, 5, ("p", "q"), 1), apply_delta, delta, ((1, 2, 3), (4, 5)))
        self.assert_result((2, 3, 2, 9, 3, 1), apply_delta,
                           (("copy", 1, 1, 4), ("insert", 9), ("copy", 0, 0, 1), ("copy", 1, 0, 1)),
                           ((3, 2), (1, 2, 3, 2, 3)))

    def test_no_pieces(self):
        self.assert_result((), apply_delta, (), ())
        self.assert_result((), apply_delta, (), BASES)

    def test_one_piece(self):
        for element in MIXED:
            self.assert_result((element,), apply_delta, (("insert", element),), ())
        self.assert_result((1,), apply_delta, (("copy", 0, 0, 1),), BASES)
        self.assert_result((3,), apply_delta, (("copy", 0, 2, 3),), BASES)
        self.assert_result((1, 2, 3), apply_delta, (("copy", 0, 0, 3),), BASES)

    def test_pieces_that_overlap(self):
        delta = (("copy", 0, 1, 3), ("copy", 0, 0, 2), ("copy", 0, 0, 2), ("insert", 2))
        self.assert_result((2, 3, 1, 2, 1, 2, 2), apply_delta, delta, BASES)

    def check(self, place, *delta):
        self.assert_refused(InvalidPiece(place), apply_delta, delta, BASES)

    def test_a_base_that_does_not_exist(self):
        self.check(0, ("copy", 3, 0, 1))
        self.check(1, ("insert", 1), ("copy", 1000000, 0, 1))
        self.assert_refused(InvalidPiece(0), apply_delta, (("copy", 0, 0, 1),), ())

    def test_a_copy_of_no_elements(self):
        for place in range(4):
            self.check(0, ("copy", 0, place, place))
        self.check(2, ("insert", 1), ("copy", 0, 0, 1), ("copy", 1, 0, 0))

    def test_a_start_behind_the_end(self):
        self.check(0, ("copy", 0, 2, 1))
        self.check(0, ("copy", 0, 1000000, 3))

    def test_an_end_behind_the_base(self):
        self.check(0, ("copy", 0, 0, 4))
        self.check(0, ("copy", 1, 0, 1))
        self.check(0, ("copy", 2, 3, 4))
        self.check(0, ("copy", 2, 0, 1000000))

    def test_the_first_of_several(self):
        self.check(1, ("insert", 1), ("copy", 0, 1, 1), ("copy", 9, 0, 1), ("copy", 0, 3, 1))
        self.check(2, ("copy", 0, 0, 1), ("insert", 1), ("copy", 9, 0, 1), ("copy", 0, 1, 1))

    def test_2000_elements_and_2001(self):
        self.assert_result(LINE, apply_delta, (("copy", 0, 0, 2000),), (LINE,))
        self.assert_result(LINE, apply_delta, tuple(("insert", element) for element in LINE), ())
        self.assert_result((5,) + LINE[1:], apply_delta, (("insert", 5), ("copy", 0, 1, 2000)), (LINE,))
        self.assert_refused(TooManyElements(2001), apply_delta, (("copy", 0, 0, 2000), ("insert", 5)), (LINE,))
        self.assert_refused(TooManyElements(2001), apply_delta, (("insert", 5), ("copy", 0, 0, 2000)), (LINE,))
        self.assert_refused(TooManyElements(2001), apply_delta, (("insert", 5),) * 2001, ())

    def test_5000_pieces(self):
        self.assert_refused(TooManyElements(5000), apply_delta, (("insert", 5),) * 5000, ())
        self.assert_refused(TooManyElements(10000000), apply_delta, (("copy", 0, 0, 2000),) * 5000, (LINE,))

    def test_a_piece_that_is_not_valid_behind_too_many_elements(self):
        delta = (("copy", 0, 0, 2000), ("insert", 5), ("copy", 0, 7, 7))
        self.assert_refused(InvalidPiece(2), apply_delta, delta, (LINE,))
        delta = (("insert", 5),) * 4999 + (("copy", 8, 0, 1),)
        self.assert_refused(InvalidPiece(4999), apply_delta, delta, (LINE,) * 8)

    def test_eight_bases(self):
        delta = tuple(("copy", number, number, number + 2) for number in range(8))
        expected = tuple(element for number in range(8) for element in LINE[number:number + 2])
        self.assert_result(expected, apply_delta, delta, (LINE,) * 8)


class FindTest(RowCase):
    def test_the_examples(self):
        expected = (("copy", 1, 1, 4), ("insert", 9), ("copy", 0, 0, 1), ("copy", 1, 0, 1))
        self.assert_result(expected, find_delta, (2, 3, 2, 9, 3, 1), ((3, 2), (1, 2, 3, 2, 3)))

    def test_no_elements(self):
        self.assert_result((), find_delta, (), ())
        self.assert_result((), find_delta, (), BASES)
        self.assert_result((), find_delta, (), (LINE,) * 8)

    def test_no_bases(self):
        for contents in list(SMALL.values()) + list(LARGE.values()):
            expected = tuple(("insert", element) for element in contents)
            self.assert_result(expected, find_delta, contents, ())
            self.assert_result(expected, find_delta, contents, ((), ()))

    def test_an_element_in_no_base(self):
        self.assert_result((("insert", 7), ("copy", 0, 0, 1), ("insert", "1"), ("insert", (1, 2))), find_delta,
                           (7, 1, "1", (1, 2)), ((1, 2),))

    def test_a_base_that_is_equal_to_the_contents(self):
        for contents in SMALL.values():
            if contents:
                self.assert_result((("copy", 1, 0, len(contents)),), find_delta, contents, (("!",), contents, contents))

    def test_equally_long_copies_in_several_bases(self):
        self.assert_result((("copy", 1, 1, 3),), find_delta, (5, 6), ((6, 5), (4, 5, 6), (5, 6), (5, 6, 7)))
        self.assert_result((("copy", 0, 0, 1), ("insert", 8)), find_delta, (5, 8), ((5,), (5,)))

    def test_equally_long_copies_at_several_indices(self):
        self.assert_result((("copy", 0, 1, 3),), find_delta, (5, 6), ((5, 5, 6, 7, 5, 6),))
        self.assert_result((("copy", 0, 0, 2), ("copy", 0, 0, 1)), find_delta, (7, 7, 7), ((7, 7), (7,)))

    def test_the_longest_copy_counts(self):
        self.assert_result((("copy", 2, 1, 4),), find_delta, (5, 6, 7), ((5, 6), (5,), (4, 5, 6, 7), (5, 6, 8)))
        self.assert_result((("copy", 0, 3, 6),), find_delta, (5, 6, 7), ((5, 6, 8, 5, 6, 7),))

    def test_only_the_next_copy_counts(self):
        self.assert_result((("copy", 0, 0, 3), ("insert", 4)), find_delta, (1, 2, 3, 4), ((1, 2, 3), (2, 3, 5)))
        self.assert_result((("copy", 0, 0, 2), ("copy", 2, 1, 2)), find_delta, (1, 2, 3),
                           ((1, 2), (4,), (2, 3)))

    def test_any_contents(self):
        for seed in range(120):
            choices = MIXED[:2 + seed % 9]
            contents = picked(seed % 25, choices, seed)
            bases = tuple(picked((seed * number) % 17, choices, 1000 + seed + number) for number in range(seed % 9))
            expected = model.found_delta(contents, bases)
            self.assert_result(expected, find_delta, contents, bases)
            self.assert_result(contents, apply_delta, expected, bases)

    def test_small_contents(self):
        bases = (SMALL["stretches"], SMALL["mixed"], SMALL["a part that is repeated"], SMALL["ascending"])
        for contents in SMALL.values():
            expected = model.found_delta(contents, bases)
            self.assert_result(expected, find_delta, contents, bases)
            self.assert_result(contents, apply_delta, expected, bases)

    def test_the_product(self):
        self.assert_result((("copy", 0, 0, 200),), find_delta, LINE[:200], (LINE[:500],))
        self.assert_result((("copy", 0, 100, 200),), find_delta, LINE[100:200], (LINE[:600], LINE[:400]))
        self.assert_refused(DeltaTooLarge(), find_delta, LINE[:200], (LINE[:500], (1,)))
        self.assert_refused(DeltaTooLarge(), find_delta, LINE[:100], (LINE[:600], LINE[:401]))
        # 100001 is 11 * 9091.
        self.assert_refused(DeltaTooLarge(), find_delta, (7,) * 11, ((7,) * 2000,) * 4 + ((7,) * 1091,))
        self.assert_result((("copy", 0, 0, 11),), find_delta, (7,) * 11, ((7,) * 2000,) * 4 + ((7,) * 1090,))
        self.assert_refused(DeltaTooLarge(), find_delta, LINE, (LINE,) * 8)

    def test_the_greatest_product(self):
        self.assert_result((("copy", 0, 0, 316),), find_delta, (7,) * 316, ((7,) * 316,))
        self.assert_result((("copy", 0, 0, 50),) * 40, find_delta, (7,) * 2000, ((7,) * 50,))
        contents = ((7,) * 9 + (8,)) * 31
        self.assert_result((("copy", 0, 0, 9), ("insert", 8)) * 31, find_delta, contents, ((7,) * 300,))
        self.assert_result((("insert", 5),) * 316, find_delta, (5,) * 316, (LINE[6:300], LINE[300:320]))


if __name__ == "__main__":
    unittest.main()
