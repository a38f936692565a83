import unittest

from sameshape import errors
from sameshape.changes import apply_changes, composed
from sameshape.deltas import apply_delta, find_delta
from sameshape.editors import Editor
from sameshape.intervals import intervals_of, shifted
from sameshape.ledgers import Ledger, recover
from sameshape.packs import pack_of, unpacked
from sameshape.quotas import Quota
from sameshape.recipes import run_recipe
from sameshape.sequences import repeated
from sameshape.queues import without_first
from sameshape.stores import Store
from sameshape.wire import read_pack

PLAIN = ("VersionReleased", "TooManyVersions", "TooManyTags", "StoreFull", "QuotaExceeded", "DifferentStores",
         "WrongKind", "UnknownOperation", "QueueEmpty", "EmptyInterval", "IntervalOutOfRange", "ChangesDoNotFollow",
         "DeltaTooLarge", "UnknownBaseNodes", "NotCanonical", "LedgerFull")
WITH_PLACE = ("IndexOutOfRange", "InvalidInstruction", "RecipeTooLarge", "InvalidPiece", "ChangeDoesNotApply",
              "InvalidNode", "InvalidRoot", "InvalidContents", "InvalidNumber", "UnknownVersion", "InvalidRecord")
WITH_COUNT = ("TooManyElements", "PackTooLarge")
WITH_NAME = ("UnknownTag",)
ALL = PLAIN + WITH_PLACE + WITH_COUNT + WITH_NAME


class ErrorsTest(unittest.TestCase):
    def check_raised(self, name, *given):
        found = getattr(errors, name)
        for base in (found, errors.ShapeError, ValueError):
            with self.assertRaises(base) as caught:
                raise found(*given)
            self.assertIs(type(caught.exception), found)
        return caught.exception

    def test_the_base_class(self):
        self.assertTrue(issubclass(errors.ShapeError, ValueError))
        self.check_raised("ShapeError")

    def test_errors_without_attributes(self):
        for name in PLAIN:
            with self.subTest(name):
                error = self.check_raised(name)
                self.assertEqual(vars(error), {})

    def test_errors_with_one_attribute(self):
        for names, attribute, value in ((WITH_PLACE, "place", 3), (WITH_PLACE, "place", 0),
                                        (WITH_COUNT, "count", 2001), (WITH_NAME, "name", "start"),
                                        (WITH_NAME, "name", "")):
            for name in names:
                with self.subTest(name):
                    error = self.check_raised(name, value)
                    self.assertEqual(vars(error), {attribute: value})

    def test_no_error_is_a_subclass_of_another_one(self):
        for name in ALL:
            for other in ALL:
                if name != other:
                    self.assertFalse(issubclass(getattr(errors, name), getattr(errors, other)), (name, other))

    def test_each_error_stands_in_its_file(self):
        for name in ALL + ("ShapeError",):
            self.assertEqual(getattr(errors, name).__module__, "sameshape.errors")
        listed = {name for name, value in vars(errors).items() if isinstance(value, type)}
        self.assertEqual(listed, set(ALL + ("ShapeError",)))


def use_a_released_version():
    store = Store()
    version = store.make("sequence", (1,))
    store.let_go(version)
    store.derive(version, ("repeat", 2))


def make_41_versions():
    store = Store()
    for _ in range(41):
        store.make("sequence", ())


def give_21_tags():
    store = Store()
    version = store.make("sequence", ())
    for place in range(21):
        store.tag(str(place), version)


def pass_a_quota():
    store = Store()
    with Quota(store, 2):
        store.make("sequence", (1, 2))


def let_go_of_a_strange_version():
    Store().let_go(Store().make("sequence", ()))


def join_two_kinds():
    store = Store()
    store.combine("join", store.make("map", ()), store.make("queue", ()))


def fill_a_ledger():
    ledger = Ledger()
    for place in range(5):
        ledger.make("sequence", tuple(range(2000 * place, 2000 * place + 2000)))


MANY = tuple(("sequence", tuple(range(3000 * place, 3000 * place + 1900))) for place in range(2))

# For each error, a call that raises it, and its attributes.
RAISED = {
    "VersionReleased": (use_a_released_version, {}),
    "TooManyVersions": (make_41_versions, {}),
    "TooManyTags": (give_21_tags, {}),
    "StoreFull": (lambda: Store(capacity=2).make("sequence", (1, 2)), {}),
    "QuotaExceeded": (pass_a_quota, {}),
    "DifferentStores": (let_go_of_a_strange_version, {}),
    "WrongKind": (join_two_kinds, {}),
    "UnknownOperation": (lambda: Store().derive(Store().make("map", ()), ("pop",)), {}),
    "QueueEmpty": (lambda: without_first(()), {}),
    "EmptyInterval": (lambda: intervals_of(((3, 3),)), {}),
    "IntervalOutOfRange": (lambda: shifted(((0, 1),), 10 ** 15), {}),
    "ChangesDoNotFollow": (lambda: composed((("a", 1, 2),), (("a", 3, 4),)), {}),
    "DeltaTooLarge": (lambda: find_delta((1,) * 1000, ((2,) * 101,)), {}),
    "UnknownBaseNodes": (lambda: unpacked((1, (), ())), {}),
    "NotCanonical": (lambda: unpacked((0, (("leaf", 1),), ())), {}),
    "LedgerFull": (fill_a_ledger, {}),
    "IndexOutOfRange": (lambda: Editor((1,)).replace_range(0, 2, ()), {"place": 2}),
    "InvalidInstruction": (lambda: run_recipe((("literal", 1), ("concat", (1,)))), {"place": 1}),
    "RecipeTooLarge": (lambda: run_recipe((("literal", 1),) + (("repeat", 0, 2000),) * 100), {"place": 100}),
    "InvalidPiece": (lambda: apply_delta((("insert", 1), ("copy", 0, 0, 1)), ()), {"place": 1}),
    "ChangeDoesNotApply": (lambda: apply_changes((), (("a", None, 1), ("b", 1, 2))), {"place": 1}),
    "InvalidNode": (lambda: unpacked((0, (("leaf", 1), ("run", 1, 2)), ())), {"place": 1}),
    "InvalidRoot": (lambda: unpacked((0, (), (("map", None), ("map", 0)))), {"place": 1}),
    "InvalidContents": (lambda: Store().make_all((("map", ()), ("map", (1,)))), {"place": 1}),
    "InvalidNumber": (lambda: read_pack((0, 1, 7)), {"place": 2}),
    "UnknownVersion": (lambda: Ledger().let_go(3), {"place": 3}),
    "InvalidRecord": (lambda: recover((2, 0)), {"place": 0}),
    "TooManyElements": (lambda: repeated((1, 2), 1001), {"count": 2002}),
    "PackTooLarge": (lambda: pack_of(MANY), {"count": sum(len(pack_of((part,))[1]) for part in MANY)}),
    "UnknownTag": (lambda: Store().checkout("a"), {"name": "a"}),
}


class RaisedTest(unittest.TestCase):
    def test_each_error_is_raised(self):
        self.assertEqual(set(RAISED), set(ALL))
        for name, (call, attributes) in RAISED.items():
            with self.subTest(name):
                with self.assertRaises(ValueError) as caught:
                    call()
                self.assertIs(type(caught.exception), getattr(errors, name))
                self.assertIsInstance(caught.exception, errors.ShapeError)
                self.assertEqual(vars(caught.exception), attributes)
                for other in ALL:
                    self.assertEqual(isinstance(caught.exception, getattr(errors, other)), other == name)

    def test_there_are_thirty(self):
        self.assertEqual(len(set(ALL)), 30)


if __name__ == "__main__":
    unittest.main()
