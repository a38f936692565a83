import random
import unittest

from sameshape.errors import TooManyElements
from sameshape.settling import settlements
from sameshape.streams import Stream
from tests import model
from tests.samples import LARGE, SMALL, picked, scattered, stretched
from tests.support import RowCase

LONGER = (scattered(120, 22), picked(200, ("a", "b", ("a", "b")), 23), stretched(200, (1, 2, 3), 24))


def portions(contents, sizes):
    """The contents in portions of these sizes, again and again."""
    found = []
    while contents:
        size = sizes[len(found) % len(sizes)]
        found.append(contents[:size])
        contents = contents[size:]
    return found


class StreamTest(RowCase):
    def check_fed(self, contents, parts):
        """A stream that is fed the parts says what the contents say together, and each part what is new."""
        stream = Stream()
        expected = tuple(settlements(contents))
        many = 0
        for part in parts:
            before = many
            many += len(part)
            new = tuple(row for row in expected if before < row[0] <= many)
            self.assert_result(new, stream.feed, part)
            self.assertEqual(len(stream), many)
        self.assertEqual(many, len(contents))
        return stream

    def test_the_examples(self):
        stream = Stream()
        self.assert_result((), stream.feed, (1, 2, 3, 4))
        self.assert_result(((5, 1, 0, 2), (7, 1, 2, 4)), stream.feed, (5, 6, 7))
        stream = Stream()
        stream.feed((1, 2, 3, 4, 5, 6, 7))
        self.assertEqual(stream.rest, ((1, 4, 7), (2, 0, 7)))

    def test_a_new_stream(self):
        stream = Stream()
        self.assertEqual(len(stream), 0)
        self.assertEqual(stream.rest, ())

    def test_an_empty_portion(self):
        stream = Stream()
        self.assert_result((), stream.feed, ())
        self.assertEqual((len(stream), stream.rest), (0, ()))
        stream.feed((1, 2, 3, 4, 5))
        rest = stream.rest
        self.assert_result((), stream.feed, ())
        self.assertEqual((len(stream), stream.rest), (5, rest))
        self.assert_result(((7, 1, 2, 4),), stream.feed, (6, 7))

    def test_a_stream_without_levels_above(self):
        stream = Stream()
        for many in range(1, 30):
            self.assert_result((), stream.feed, ("a",))
            self.assertEqual((len(stream), stream.rest), (many, ()))
        self.assert_result((), stream.feed, ("b",))
        self.assertEqual(stream.rest, ((1, 0, 30),))

    def test_a_root_that_is_a_run_of_blocks(self):
        stream = Stream()
        stream.feed(("x", "y", "y", "y") * 2)
        self.assertEqual(stream.rest, ((1, 0, 4), (1, 4, 8)))

    def test_one_by_one(self):
        for contents in list(SMALL.values()) + list(LONGER):
            stream = Stream()
            found = ()
            for many in range(1, len(contents) + 1):
                found += stream.feed(contents[many - 1:many])
                self.assertEqual(len(stream), many)
                self.assertEqual(stream.rest, model.rest(contents[:many]))
            self.assertEqual(found, tuple(settlements(contents)))

    def test_in_several_portions(self):
        for contents in list(SMALL.values()) + list(LONGER):
            for sizes in ((len(contents) + 1,), (1,), (2,), (3, 1), (7,), (50, 3)):
                stream = self.check_fed(contents, portions(contents, sizes))
                self.assertEqual(stream.rest, model.rest(contents))
                self.assert_rows(stream.rest)

    def test_2000_elements(self):
        source = random.Random(25)
        sizes = [source.randint(1, 40) for _ in range(60)]
        for name, contents in LARGE.items():
            with self.subTest(name):
                rest = model.rest(contents)
                for parts in ((contents,), portions(contents, (1,)), portions(contents, sizes)):
                    self.assertEqual(self.check_fed(contents, parts).rest, rest)

    def test_reading_the_rest_changes_nothing(self):
        contents = LONGER[0]
        stream = Stream()
        found = ()
        for part in portions(contents, (5, 2)):
            found += stream.feed(part)
            self.assertEqual(stream.rest, stream.rest)
        self.assertEqual(found, tuple(settlements(contents)))

    def test_streams_do_not_touch_each_other(self):
        first, second = Stream(), Stream()
        first.feed((1, 2, 3, 4))
        self.assertEqual((len(second), second.rest), (0, ()))
        second.feed(("a",))
        self.assert_result(((5, 1, 0, 2), (7, 1, 2, 4)), first.feed, (5, 6, 7))


class TooManyTest(RowCase):
    def check_refused(self, stream, contents, count):
        with self.assertRaises(TooManyElements) as caught:
            stream.feed(contents)
        self.assertEqual(caught.exception.count, count)

    def test_at_once(self):
        stream = Stream()
        self.check_refused(stream, tuple(range(2000)) + (1,), 2001)
        self.assertEqual((len(stream), stream.rest), (0, ()))
        self.assert_result((), stream.feed, (7,) * 2000)
        self.check_refused(stream, (7,), 2001)
        self.check_refused(stream, (7,) * 2000, 4000)
        self.assert_result((), stream.feed, ())
        self.assertEqual((len(stream), stream.rest), (2000, ()))

    def test_the_stream_is_unchanged(self):
        contents = LARGE["stretches"]
        expected = tuple(settlements(contents))
        stream = Stream()
        found = stream.feed(contents[:1500])
        rest = stream.rest
        self.check_refused(stream, LARGE["two values"][:501], 2001)
        self.check_refused(stream, contents, 3500)
        self.assertEqual((len(stream), stream.rest), (1500, rest))
        found += stream.feed(contents[1500:1999])
        self.check_refused(stream, (1, 2), 2001)
        found += stream.feed(contents[1999:])
        self.assertEqual(found, expected)
        self.assertEqual((len(stream), stream.rest), (2000, model.rest(contents)))


if __name__ == "__main__":
    unittest.main()
