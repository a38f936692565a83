import unittest

from sameshape.errors import (ChangeDoesNotApply, EmptyInterval, IndexOutOfRange, IntervalOutOfRange, QueueEmpty,
                              TooManyElements, UnknownOperation)
from sameshape.operations import combined, derived
from tests.samples import FAR
from tests.support import RowCase

LETTERS = ("a", "b", "c", "d")
MAP = ((10, "x"), ("a", 1), ("b", 3))
QUEUE = ((-2, "z"), (1, "a"), (5, "e"), (5, "f"))
SET = ((0, 3), (5, 6), (8, 9), (12, 20))
CONTENTS = {"sequence": LETTERS, "map": MAP, "queue": QUEUE, "intervals": SET}
WHOLE = tuple((2 * place, 2 * place + 1) for place in range(2000))

# For each kind, operations on the contents above and what they give.
DERIVED = {
    "sequence": (
        (("slice", 1, 3), ("b", "c")),
        (("slice", 0, 4), LETTERS),
        (("slice", 2, 2), ()),
        (("splice", 1, 2, ("x", ("y", 1), "z")), ("a", "x", ("y", 1), "z", "d")),
        (("splice", 4, 0, (7,)), ("a", "b", "c", "d", 7)),
        (("repeat", 2), LETTERS + LETTERS),
        (("repeat", 0), ()),
    ),
    "map": (
        (("put", "a", 5), ((10, "x"), ("a", 5), ("b", 3))),
        (("put", "aa", 5), ((10, "x"), ("a", 1), ("aa", 5), ("b", 3))),
        (("put", "a", "as sequence"), ((10, "x"), ("a", "as sequence"), ("b", 3))),
        (("drop", 10), (("a", 1), ("b", 3))),
        (("drop", 11), MAP),
        (("between", 0, "b"), ((10, "x"), ("a", 1))),
        (("between", "b", 0), ()),
        (("change", (("a", 1, 10), ("b", 3, None), ("c", None, 4))), ((10, "x"), ("a", 10), ("c", 4))),
        (("change", ()), MAP),
    ),
    "queue": (
        (("push", 1, "b"), ((-2, "z"), (1, "a"), (1, "b"), (5, "e"), (5, "f"))),
        (("push", 0, "b"), ((-2, "z"), (0, "b"), (1, "a"), (5, "e"), (5, "f"))),
        (("pop",), ((1, "a"), (5, "e"), (5, "f"))),
        (("pop up to", 1), ((5, "e"), (5, "f"))),
        (("pop up to", -3), QUEUE),
        (("remove", 2), ((-2, "z"), (1, "a"), (5, "f"))),
        (("reprioritize", 2, 5), ((-2, "z"), (1, "a"), (5, "f"), (5, "e"))),
        (("reprioritize", 3, -9), ((-9, "f"), (-2, "z"), (1, "a"), (5, "e"))),
    ),
    "intervals": (
        (("add", 3, 5), ((0, 6), (8, 9), (12, 20))),
        (("add", 30, 31), SET + ((30, 31),)),
        (("cut", 1, 13), ((0, 1), (13, 20))),
        (("shift", -1), ((-1, 2), (4, 5), (7, 8), (11, 19))),
        (("grow", 1, 2), ((-1, 22),)),
        (("grow", 0, 1), ((0, 4), (5, 7), (8, 10), (12, 21))),
        (("shrink", 1, 0), ((1, 3), (13, 20))),
        (("shrink", 0, 1), ((0, 2), (12, 19))),
        (("gaps", 4, 13), ((4, 5), (6, 8), (9, 12))),
    ),
}
ERRORS = (
    ("sequence", LETTERS, ("slice", 1, 5), IndexOutOfRange(5)),
    ("sequence", LETTERS, ("slice", 3, 2), IndexOutOfRange(3)),
    ("sequence", LETTERS, ("splice", 5, 0, ()), IndexOutOfRange(5)),
    ("sequence", LETTERS, ("splice", 3, 2, ()), IndexOutOfRange(5)),
    ("sequence", WHOLE, ("splice", 0, 0, (1,)), TooManyElements(2001)),
    ("sequence", LETTERS, ("repeat", 501), TooManyElements(2004)),
    ("map", WHOLE, ("put", "a", 0), TooManyElements(2001)),
    ("map", MAP, ("change", (("a", 1, 2), ("b", 4, 5))), ChangeDoesNotApply(1)),
    ("map", WHOLE, ("change", (("a", None, 2), ("b", None, 5))), TooManyElements(2002)),
    ("queue", (), ("pop",), QueueEmpty()),
    ("queue", WHOLE, ("push", 5, "a"), TooManyElements(2001)),
    ("queue", QUEUE, ("remove", 4), IndexOutOfRange(4)),
    ("queue", QUEUE, ("reprioritize", 7, 1), IndexOutOfRange(7)),
    ("intervals", SET, ("add", 3, 3), EmptyInterval()),
    ("intervals", SET, ("cut", 3, 2), EmptyInterval()),
    ("intervals", WHOLE, ("add", 9000, 9001), TooManyElements(2001)),
    ("intervals", WHOLE[:1999] + ((5000, 5009),), ("cut", 5003, 5004), TooManyElements(2001)),
    ("intervals", SET, ("shift", FAR), IntervalOutOfRange()),
    ("intervals", ((-1, 3),), ("grow", FAR, 0), IntervalOutOfRange()),
    ("intervals", SET, ("grow", 0, FAR), IntervalOutOfRange()),
    ("intervals", WHOLE, ("gaps", -5, 9000), TooManyElements(2001)),
)


class DerivedTest(RowCase):
    def test_the_examples(self):
        self.assert_result(("queue", ((0, "b"), (1, "a"))), derived, "queue", ((1, "a"),), ("push", 0, "b"))
        self.assert_refused(UnknownOperation(), derived, "map", (("a", 1),), ("pop",))

    def test_each_word(self):
        for kind, operations in DERIVED.items():
            for operation, contents in operations:
                with self.subTest((kind, operation)):
                    self.assert_result((kind, contents), derived, kind, CONTENTS[kind], operation)

    def test_the_errors_of_the_functions(self):
        for kind, contents, operation, error in ERRORS:
            with self.subTest((kind, operation)):
                self.assert_refused(error, derived, kind, contents, operation)

    def test_no_elements(self):
        for kind, operation in (("sequence", ("slice", 0, 0)), ("sequence", ("splice", 0, 0, ())),
                                ("sequence", ("repeat", 2000)), ("map", ("drop", "a")), ("map", ("between", 0, 9)),
                                ("map", ("change", ())), ("queue", ("pop up to", 5)), ("intervals", ("cut", 0, 1)),
                                ("intervals", ("shift", FAR)), ("intervals", ("grow", FAR, FAR)),
                                ("intervals", ("shrink", 1, 1)), ("intervals", ("gaps", 5, 5))):
            self.assert_result((kind, ()), derived, kind, (), operation)
        self.assert_result(("sequence", ("x",)), derived, "sequence", (), ("splice", 0, 0, ("x",)))
        self.assert_result(("map", (("a", 0),)), derived, "map", (), ("put", "a", 0))
        self.assert_result(("queue", ((7, "a"),)), derived, "queue", (), ("push", 7, "a"))
        self.assert_result(("intervals", ((3, 4),)), derived, "intervals", (), ("add", 3, 4))
        self.assert_result(("intervals", ((3, 4),)), derived, "intervals", (), ("gaps", 3, 4))
        self.assert_refused(IndexOutOfRange(0), derived, "queue", (), ("remove", 0))

    def test_2000_elements(self):
        for kind, operation in (("sequence", ("slice", 0, 2000)), ("sequence", ("repeat", 1)), ("map", ("drop", 1)),
                                ("map", ("put", 0, 1)), ("queue", ("pop up to", -1)), ("intervals", ("add", 0, 1)),
                                ("intervals", ("shift", 0)), ("intervals", ("grow", 0, 0))):
            self.assert_result((kind, WHOLE), derived, kind, WHOLE, operation)
        self.assert_result(("map", WHOLE[1:] + (("a", 0),)), derived, "map", WHOLE[1:], ("put", "a", 0))

    def test_as_sequence(self):
        for kind, contents in CONTENTS.items():
            self.assert_result(("sequence", contents), derived, kind, contents, ("as sequence",))
            self.assert_result(("sequence", ()), derived, kind, (), ("as sequence",))
            self.assert_result(("sequence", WHOLE), derived, kind, WHOLE, ("as sequence",))

    def test_words_of_other_kinds(self):
        for kind, contents in CONTENTS.items():
            for other, operations in DERIVED.items():
                for operation, _ in operations:
                    if other != kind:
                        self.assert_refused(UnknownOperation(), derived, kind, contents, operation)

    def test_words_of_no_kind(self):
        for kind, contents in CONTENTS.items():
            for operation in (("",), ("x", 1, 2), ("Slice", 0, 1), ("pop ",), ("as_sequence",), ("sequence",),
                              ("join", ()), ("make", "map", ((1, 2),)), ("others", None, ((("a",),),), "b", 10 ** 20)):
                self.assert_refused(UnknownOperation(), derived, kind, contents, operation)


class CombinedTest(RowCase):
    def test_the_example(self):
        self.assert_result((("b", 2),), combined, "common", "map", (("a", 1), ("b", 2)), (("b", 5),))

    def test_sequences(self):
        self.assert_result(("a", "b", "b", 1), combined, "join", "sequence", ("a", "b"), ("b", 1))
        self.assert_refused(TooManyElements(2001), combined, "join", "sequence", WHOLE, (1,))

    def test_maps(self):
        second = (("a", 5), ("c", 6))
        self.assert_result(((10, "x"), ("a", 5), ("b", 3), ("c", 6)), combined, "join", "map", MAP, second)
        self.assert_result((("a", 1),), combined, "common", "map", MAP, second)
        self.assert_result(((10, "x"), ("b", 3)), combined, "others", "map", MAP, second)
        self.assert_refused(TooManyElements(2002), combined, "join", "map", WHOLE, second)

    def test_queues(self):
        self.assert_result(((4, "c"), (5, "e"), (5, "f"), (5, "d")), combined, "join", "queue",
                           ((5, "e"), (5, "f")), ((4, "c"), (5, "d")))
        self.assert_refused(TooManyElements(2004), combined, "join", "queue", WHOLE, QUEUE)

    def test_interval_sets(self):
        second = ((2, 6), (15, 30))
        self.assert_result(((0, 6), (8, 9), (12, 30)), combined, "join", "intervals", SET, second)
        self.assert_result(((2, 3), (5, 6), (15, 20)), combined, "common", "intervals", SET, second)
        self.assert_result(((0, 2), (8, 9), (12, 15)), combined, "others", "intervals", SET, second)
        self.assert_refused(TooManyElements(2001), combined, "join", "intervals", WHOLE, ((9000, 9001),))
        self.assert_refused(TooManyElements(2001), combined, "others", "intervals", ((-9, 9000),), WHOLE)

    def test_no_elements(self):
        for kind, contents in CONTENTS.items():
            self.assert_result((), combined, "join", kind, (), ())
            self.assert_result(contents, combined, "join", kind, contents, ())
            self.assert_result(contents, combined, "join", kind, (), contents)
        for kind in ("map", "intervals"):
            self.assert_result((), combined, "common", kind, CONTENTS[kind], ())
            self.assert_result((), combined, "common", kind, (), CONTENTS[kind])
            self.assert_result(CONTENTS[kind], combined, "others", kind, CONTENTS[kind], ())
            self.assert_result((), combined, "others", kind, (), CONTENTS[kind])

    def test_words_that_a_kind_does_not_have(self):
        for kind, contents in CONTENTS.items():
            for word in ("", "Join", "joined", "other", "as sequence", "slice"):
                self.assert_refused(UnknownOperation(), combined, word, kind, contents, contents)
        for kind in ("sequence", "queue"):
            for word in ("common", "others"):
                self.assert_refused(UnknownOperation(), combined, word, kind, CONTENTS[kind], ())
        self.assert_refused(UnknownOperation(), combined, "common", "sequence", WHOLE, WHOLE)


if __name__ == "__main__":
    unittest.main()
