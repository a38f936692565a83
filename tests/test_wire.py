import random
import unittest

from sameshape.errors import InvalidNumber
from sameshape.packs import pack_of
from sameshape.wire import numbers_of, read_pack
from tests import packs_model
from tests.packs_model import KINDS, wrong_place
from tests.samples import EDGES, FAR, LARGE, SMALL, STRINGS
from tests.support import RowCase

EXAMPLE = (4, (("block", (0, 1)), ("leaf", 4), ("block", (2, 5)), ("block", (4, 6))), (("sequence", 7),))
EXAMPLE_NUMBERS = (4, 4, 6, 2, 0, 1, 1, 0, 0, 0, 4, 6, 2, 2, 5, 6, 2, 4, 6, 1, 1, 8)
LETTERS = "".join(chr(code) for code in range(32, 127) if code != 37)

# Packs of all forms, whether they are packs of some parts or not.
PACKS = (
    (0, (), ()),
    (65534, (), (("map", None),)),
    EXAMPLE,
    (0, tuple(("leaf", element) for element in EDGES), (("queue", 0), ("intervals", 3))),
    (1, tuple(("leaf", element) for element in STRINGS), ()),
    (2, (("leaf", LETTERS[:20]), ("leaf", LETTERS[20:40]), ("leaf", LETTERS[40:60]), ("leaf", LETTERS[60:80]),
         ("leaf", LETTERS[80:])), (("map", 6),)),
    (0, (("leaf", (1, -1)), ("leaf", ("", "x" * 20)), ("leaf", (FAR, "a")), ("leaf", ("b", -FAR))), ()),
    (0, (("run", 0, 2), ("run", 65534, 65535), ("run", 7, 2000)), (("sequence", 65534),)),
    (9, (("block", (0, 65534)), ("block", tuple(range(12))), ("block", (5, 5, 5))), (("sequence", 0),) * 8),
    (0, (), tuple((kind, None) for kind in KINDS) + tuple((kind, 0) for kind in KINDS)),
)


class WritingTest(RowCase):
    def test_the_examples(self):
        self.assert_result((0, 1, 1, 0, 0, 0, 5, 1, 1, 1), numbers_of, (0, (("leaf", 5),), (("sequence", 0),)))
        self.assert_result(EXAMPLE_NUMBERS, numbers_of, EXAMPLE)

    def test_each_kind_of_entry(self):
        for entry, numbers in ((("leaf", 70000), (1, 0, 0, 1, 4464)), (("leaf", -2), (2, 0, 0, 0, 2)),
                               (("leaf", "abc"), (3, 3, 97, 98, 99)), (("leaf", ""), (3, 0)),
                               (("leaf", ("x", 5)), (4, 3, 1, 120, 1, 0, 0, 0, 5)),
                               (("leaf", FAR), (1, 3, 36222, 42182, 32768)),
                               (("run", 7, 1999), (5, 1999, 7)), (("run", 65534, 65535), (5, 65535, 65534)),
                               (("block", (3, 1, 3)), (6, 3, 3, 1, 3))):
            self.assert_result((0, 1) + numbers + (0,), numbers_of, (0, (entry,), ()))

    def test_roots(self):
        self.assert_result((7, 0, 8, 1, 0, 2, 1, 3, 7, 4, 65535, 1, 1, 2, 0, 3, 0, 4, 1), numbers_of,
                           (7, (), (("sequence", None), ("map", 0), ("queue", 6), ("intervals", 65534),
                                    ("sequence", 0), ("map", None), ("queue", None), ("intervals", 0))))

    def test_any_packs(self):
        for pack in PACKS:
            self.assert_result(packs_model.written(pack), numbers_of, pack)

    def test_different_packs(self):
        found = {numbers_of(pack): pack for pack in PACKS}
        self.assertEqual(len(found), len(PACKS))
        for numbers in found:
            self.assertFalse([other for other in found if other != numbers and other[:len(numbers)] == numbers])


class ReadingTest(RowCase):
    def check(self, numbers):
        """The integers are read as the model says, and as no pack that is written in another way."""
        place = wrong_place(numbers)
        if place is None:
            pack = read_pack(numbers)
            self.assert_rows(pack)
            self.assertEqual(numbers_of(pack), numbers)
        else:
            self.assert_refused(InvalidNumber(place), read_pack, numbers)
        return place

    def test_the_examples(self):
        self.assert_result((0, (("leaf", 5),), (("sequence", 0),)), read_pack, (0, 1, 1, 0, 0, 0, 5, 1, 1, 1))
        self.assert_refused(InvalidNumber(2), read_pack, (0, 1, 7))
        self.assert_refused(InvalidNumber(5), read_pack, (0, 1, 1, 0, 0))
        self.assert_result(EXAMPLE, read_pack, EXAMPLE_NUMBERS)

    def test_no_integers(self):
        self.assert_refused(InvalidNumber(0), read_pack, ())

    def test_packs_that_were_written(self):
        for pack in PACKS:
            self.assert_result(pack, read_pack, packs_model.written(pack))

    def test_packs_of_parts(self):
        for contents in list(SMALL.values()) + list(LARGE.values()):
            pack = pack_of((("sequence", contents), ("sequence", contents[1:])))
            self.assert_result(pack, read_pack, numbers_of(pack))

    def test_integers(self):
        for digits, value in (((0, 0, 0, 0), 0), ((0, 0, 0, 65535), 65535), ((3, 36222, 42182, 32768), FAR),
                              ((3, 36222, 42182, 0), FAR - 32768), ((3, 36222, 42181, 65535), FAR - 32769),
                              ((3, 36221, 65535, 65535), 999997235527679), ((2, 65535, 65535, 65535), 844424930131967)):
            self.assert_result((0, (("leaf", value),), ()), read_pack, (0, 1, 1) + digits + (0,))
            if value:
                self.assert_result((0, (("leaf", -value),), ()), read_pack, (0, 1, 2) + digits + (0,))

    def test_digits_beyond_the_greatest_integer(self):
        for word in (1, 2):
            for digits, place in (((4, 0, 0, 0), 3), ((3, 36223, 0, 0), 4), ((3, 36222, 42183, 0), 5),
                                  ((3, 36222, 42182, 32769), 6), ((65535, 0, 0, 1), 3), ((3, 65535, 0, 0), 4)):
                self.assert_refused(InvalidNumber(place), read_pack, (0, 1, word) + digits + (0,))
                self.assert_refused(InvalidNumber(place + 1), read_pack, (0, 1, 4, word) + digits + (0,))
                self.assert_refused(InvalidNumber(place), read_pack, ((0, 1, word) + digits)[:place + 1])

    def test_minus_zero(self):
        self.assert_refused(InvalidNumber(6), read_pack, (0, 1, 2, 0, 0, 0, 0, 0))
        self.assert_refused(InvalidNumber(6), read_pack, (0, 1, 2, 0, 0, 0))
        self.assert_refused(InvalidNumber(7), read_pack, (0, 1, 4, 2, 0, 0, 0, 0, 3, 0, 0))
        self.assert_result((0, (("leaf", -65536),), ()), read_pack, (0, 1, 2, 0, 0, 1, 0, 0))

    def test_strings(self):
        self.assert_result((0, (("leaf", ""),), ()), read_pack, (0, 1, 3, 0, 0))
        self.assert_result((0, (("leaf", "~" * 20),), ()), read_pack, (0, 1, 3, 20) + (126,) * 20 + (0,))
        self.assert_refused(InvalidNumber(3), read_pack, (0, 1, 3, 21) + (126,) * 21 + (0,))
        for code in range(200):
            numbers = (0, 1, 3, 2, 65, code, 0)
            if 32 <= code <= 126 and code != 37:
                self.assert_result((0, (("leaf", "A" + chr(code)),), ()), read_pack, numbers)
            else:
                self.assert_refused(InvalidNumber(5), read_pack, numbers)
        self.assert_refused(InvalidNumber(5), read_pack, (0, 1, 3, 2, 65, 65535))

    def test_pairs(self):
        self.assert_result((0, (("leaf", ("", ("x" * 3))),), ()), read_pack, (0, 1, 4, 3, 0, 3, 3, 120, 120, 120, 0))
        for word in (0, 4, 5, 6, 7):
            self.assert_refused(InvalidNumber(3), read_pack, (0, 1, 4, word))
            self.assert_refused(InvalidNumber(5), read_pack, (0, 1, 4, 3, 0, word, 0))

    def test_runs(self):
        for times in (2, 2000, 65535):
            self.assert_result((0, (("run", 3, times),), ()), read_pack, (0, 1, 5, times, 3, 0))
        for times in (0, 1):
            self.assert_refused(InvalidNumber(3), read_pack, (0, 1, 5, times, 3, 0))
        self.assert_result((0, (("run", 65534, 2),), ()), read_pack, (0, 1, 5, 2, 65534, 0))
        self.assert_refused(InvalidNumber(4), read_pack, (0, 1, 5, 2, 65535, 0))

    def test_blocks(self):
        for many in (2, 12):
            self.assert_result((0, (("block", (65534,) * many),), ()), read_pack,
                               (0, 1, 6, many) + (65534,) * many + (0,))
            self.assert_refused(InvalidNumber(3 + many), read_pack, (0, 1, 6, many) + (1,) * (many - 1) + (65535, 0))
        for many in (0, 1, 13, 65535):
            self.assert_refused(InvalidNumber(3), read_pack, (0, 1, 6, many) + (1,) * 13 + (0,))

    def test_the_first_integers(self):
        self.assert_result((65534, (), ()), read_pack, (65534, 0, 0))
        self.assert_refused(InvalidNumber(0), read_pack, (65535, 0, 0))
        entries = (("run", 0, 2),) * 4000
        self.assert_result((0, entries, ()), read_pack, (0, 4000) + (5, 2, 0) * 4000 + (0,))
        self.assert_refused(InvalidNumber(1), read_pack, (0, 4001) + (5, 2, 0) * 4001 + (0,))

    def test_the_roots(self):
        self.assert_result((0, (), (("map", 65534),) * 8), read_pack, (0, 0, 8) + (2, 65535) * 8)
        self.assert_refused(InvalidNumber(2), read_pack, (0, 0, 9) + (2, 65535) * 9)
        for kind in (0, 5, 65535):
            self.assert_refused(InvalidNumber(5), read_pack, (0, 0, 2, 1, 0, kind, 0))

    def test_words_of_no_entry(self):
        for word in (0, 7, 65535):
            self.assert_refused(InvalidNumber(7), read_pack, (0, 2, 1, 0, 0, 0, 5, word, 0, 0))

    def test_rows_that_are_cut_off(self):
        for pack in PACKS:
            numbers = numbers_of(pack)
            for place in range(len(numbers)):
                self.assert_refused(InvalidNumber(place), read_pack, numbers[:place])

    def test_further_integers(self):
        for pack in PACKS:
            numbers = numbers_of(pack)
            for more in ((0,), (65535,), (1, 0, 0), numbers):
                self.assert_refused(InvalidNumber(len(numbers)), read_pack, numbers + more)

    def test_one_integer_that_is_changed(self):
        found = []
        for pack in PACKS:
            numbers = numbers_of(pack)
            for place, old in enumerate(numbers):
                for new in {0, 1, 2, 3, 4, 5, 6, 7, 12, 13, 20, 21, 37, 65534, 65535, old - 1, old + 1}:
                    if new != old and 0 <= new <= 65535:
                        found.append(self.check(numbers[:place] + (new,) + numbers[place + 1:]))
        self.assertIn(None, found)

    def test_any_integers(self):
        source = random.Random(41)
        for _ in range(3000):
            self.check((0, 1, 4) + tuple(source.choice((0, 0, 1, 1, 2, 3, 4, 37, 65)) for _ in range(14)))
            self.check(tuple(source.choice((0, 0, 1, 1, 2, 3, 5, 6)) for _ in range(source.randint(0, 14))))

    def test_200000_integers(self):
        numbers = (0, 4000) + (4, 3, 20) + (65,) * 20 + (3, 20) + (66,) * 20
        numbers += ((4, 3, 20) + (65,) * 20 + (3, 20) + (66,) * 20) * 3999 + (0,)
        pack = read_pack(numbers)
        self.assertEqual(pack, (0, (("leaf", ("A" * 20, "B" * 20)),) * 4000, ()))
        self.assert_refused(InvalidNumber(len(numbers)), read_pack, numbers + (0,) * (200000 - len(numbers)))


if __name__ == "__main__":
    unittest.main()
