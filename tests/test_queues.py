import unittest

from sameshape.errors import IndexOutOfRange, QueueEmpty, TooManyElements
from sameshape.queues import (many_up_to, melded, pushed, queue_of, reprioritized, without_first, without_item,
                              without_up_to)
from tests import collections_model as model
from tests.samples import FAR, picked
from tests.support import RowCase

MADE = ((-2, "z"), (1, "a"), (5, "e"), (5, "f"))
WHOLE = tuple((place // 3, place) for place in range(2000))


def any_items(many, seed):
    """Some items with values that tell them apart, but for a few."""
    return tuple(zip(picked(many, (-FAR, -1, 0, 1, 2, 3, FAR), seed), picked(many, tuple(range(60)), seed + 1)))


QUEUES = tuple(model.in_order(any_items(many, many)) for many in range(16))


class QueueTest(RowCase):
    def test_the_examples(self):
        self.assert_result(MADE, queue_of, ((5, "e"), (1, "a"), (5, "f"), (-2, "z")))

    def test_no_items_and_one(self):
        self.assert_result((), queue_of, ())
        self.assert_result(((0, ""),), queue_of, ((0, ""),))

    def test_equal_priorities(self):
        items = ((1, "b"), (1, "a"), (1, 5), (1, ""), (1, "c"))
        self.assert_result(items, queue_of, items)
        self.assert_result(((0, "x"),) + items, queue_of, items[:2] + ((0, "x"),) + items[2:])

    def test_equal_items(self):
        self.assert_result(((1, "a"), (1, "b"), (1, "a"), (2, "a"), (2, "a")), queue_of,
                           ((2, "a"), (1, "a"), (2, "a"), (1, "b"), (1, "a")))

    def test_the_least_and_the_greatest_priority(self):
        self.assert_result(((-FAR, 1), (-FAR + 1, 2), (FAR - 1, 3), (FAR, 4)), queue_of,
                           ((FAR, 4), (-FAR, 1), (FAR - 1, 3), (-FAR + 1, 2)))

    def test_any_items(self):
        for seed in range(60):
            items = any_items(seed, seed)
            self.assert_result(model.in_order(items), queue_of, items)

    def test_2000_items_and_one_more(self):
        items = WHOLE[1000:] + WHOLE[:1000]
        self.assert_result(model.in_order(items), queue_of, items)
        self.assert_refused(TooManyElements(2001), queue_of, items + ((0, 0),))


class ManyTest(RowCase):
    def test_the_examples(self):
        self.assert_result(2, many_up_to, MADE, 4)

    def test_priorities(self):
        for priority, many in ((-FAR, 0), (-3, 0), (-2, 1), (0, 1), (1, 2), (4, 2), (5, 4), (6, 4), (FAR, 4)):
            self.assert_result(many, many_up_to, MADE, priority)
        self.assert_result(0, many_up_to, (), 0)
        self.assert_result(1, many_up_to, ((-FAR, 0), (FAR, 0)), -FAR)
        self.assert_result(2, many_up_to, ((-FAR, 0), (FAR, 0)), FAR)
        self.assert_result(1002, many_up_to, WHOLE, 333)

    def test_any_queues(self):
        for contents in QUEUES:
            for priority in range(-3, 6):
                self.assert_result(len([item for item in contents if item[0] <= priority]), many_up_to, contents,
                                   priority)


class PushedTest(RowCase):
    def test_ordinary_ones(self):
        self.assert_result(((7, "x"),), pushed, (), 7, "x")
        self.assert_result(MADE[:2] + ((4, "x"),) + MADE[2:], pushed, MADE, 4, "x")

    def test_equal_priorities(self):
        self.assert_result(MADE + ((5, "a"),), pushed, MADE, 5, "a")
        self.assert_result(MADE[:1] + ((-2, "a"),) + MADE[1:], pushed, MADE, -2, "a")
        self.assert_result(MADE + ((5, "f"),), pushed, MADE, 5, "f")

    def test_before_all_and_behind_all(self):
        self.assert_result(((-3, ""),) + MADE, pushed, MADE, -3, "")
        self.assert_result(((-FAR, ""),) + MADE, pushed, MADE, -FAR, "")
        self.assert_result(MADE + ((6, 0),), pushed, MADE, 6, 0)
        self.assert_result(MADE + ((FAR, 0),), pushed, MADE, FAR, 0)

    def test_any_queues(self):
        for contents in QUEUES:
            for priority in range(-3, 6):
                expected = model.in_order(contents + ((priority, "new"),))
                self.assert_result(expected, pushed, contents, priority, "new")

    def test_2000_items_and_one_more(self):
        self.assert_result(WHOLE, pushed, WHOLE[:-1], 666, 1999)
        self.assert_refused(TooManyElements(2001), pushed, WHOLE, 5, 0)


class WithoutTest(RowCase):
    def test_without_first(self):
        self.assert_result(MADE[1:], without_first, MADE)
        self.assert_result((), without_first, MADE[:1])
        self.assert_result(((1, "a"),), without_first, ((1, "a"), (1, "a")))
        self.assert_result(WHOLE[1:], without_first, WHOLE)

    def test_a_queue_without_items(self):
        self.assert_refused(QueueEmpty(), without_first, ())

    def test_without_up_to(self):
        for priority, many in ((-FAR, 0), (-3, 0), (-2, 1), (0, 1), (1, 2), (4, 2), (5, 4), (6, 4), (FAR, 4)):
            self.assert_result(MADE[many:], without_up_to, MADE, priority)
        self.assert_result((), without_up_to, (), 0)
        for contents in QUEUES:
            for priority in range(-3, 6):
                self.assert_result(tuple(item for item in contents if item[0] > priority), without_up_to, contents,
                                   priority)

    def test_without_item(self):
        for contents in QUEUES + (MADE,):
            for place in range(len(contents)):
                expected = list(contents)
                del expected[place]
                self.assert_result(tuple(expected), without_item, contents, place)

    def test_an_item_that_does_not_exist(self):
        self.assert_refused(IndexOutOfRange(0), without_item, (), 0)
        for place in (4, 5, 1000000):
            self.assert_refused(IndexOutOfRange(place), without_item, MADE, place)
        self.assert_refused(IndexOutOfRange(2000), without_item, WHOLE, 2000)


class ReprioritizedTest(RowCase):
    def test_the_examples(self):
        self.assert_result(((-2, "z"), (1, "a"), (5, "f"), (5, "e")), reprioritized, MADE, 2, 5)

    def test_the_priority_that_it_had(self):
        self.assert_result(MADE, reprioritized, MADE, 3, 5)
        self.assert_result(MADE, reprioritized, MADE, 0, -2)
        self.assert_result(((0, "b"), (0, "c"), (0, "a")), reprioritized, ((0, "a"), (0, "b"), (0, "c")), 0, 0)

    def test_another_priority(self):
        self.assert_result(((-2, "f"), (1, "a")), reprioritized, ((1, "a"), (5, "f")), 1, -2)
        self.assert_result(((1, "a"), (5, "f"), (5, "e"), (9, "z")), reprioritized,
                           ((-2, "z"), (1, "a"), (5, "f"), (5, "e")), 0, 9)
        self.assert_result(((-2, "z"), (1, "a"), (1, "f"), (5, "e")), reprioritized, MADE, 3, 1)
        self.assert_result(((-FAR, "a"),), reprioritized, ((3, "a"),), 0, -FAR)
        self.assert_result(((FAR, "a"),), reprioritized, ((3, "a"),), 0, FAR)

    def test_any_queues(self):
        for contents in QUEUES:
            for place in range(len(contents)):
                for priority in range(-2, 5):
                    others = list(contents)
                    value = others.pop(place)[1]
                    expected = model.in_order(others + [(priority, value)])
                    self.assert_result(expected, reprioritized, contents, place, priority)

    def test_an_item_that_does_not_exist(self):
        self.assert_refused(IndexOutOfRange(0), reprioritized, (), 0, 5)
        for place in (4, 5, 1000000):
            self.assert_refused(IndexOutOfRange(place), reprioritized, MADE, place, 5)

    def test_2000_items(self):
        self.assert_result(WHOLE[1:] + ((666, 0),), reprioritized, WHOLE, 0, 666)
        self.assert_refused(IndexOutOfRange(2000), reprioritized, WHOLE, 2000, 0)


class MeldedTest(RowCase):
    def test_the_examples(self):
        self.assert_result(((4, "c"), (5, "e"), (5, "f"), (5, "d")), melded, ((5, "e"), (5, "f")), ((4, "c"), (5, "d")))

    def test_no_items(self):
        self.assert_result((), melded, (), ())
        self.assert_result(MADE, melded, MADE, ())
        self.assert_result(MADE, melded, (), MADE)

    def test_equal_priorities(self):
        self.assert_result(((1, "b"), (1, "c"), (1, "a"), (1, "b")), melded, ((1, "b"), (1, "c")), ((1, "a"), (1, "b")))
        self.assert_result(((-2, "z"), (-2, "z"), (1, "a"), (1, "a"), (5, "e"), (5, "f"), (5, "e"), (5, "f")),
                           melded, MADE, MADE)

    def test_any_queues(self):
        for first in QUEUES:
            for second in QUEUES:
                self.assert_result(model.in_order(first + second), melded, first, second)

    def test_2000_items_and_one_more(self):
        self.assert_result(WHOLE, melded, WHOLE[:1000], WHOLE[1000:])
        self.assert_refused(TooManyElements(2001), melded, WHOLE, ((0, 0),))
        self.assert_refused(TooManyElements(2001), melded, ((0, 0),), WHOLE)
        self.assert_refused(TooManyElements(4000), melded, WHOLE, WHOLE)


if __name__ == "__main__":
    unittest.main()
