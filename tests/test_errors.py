import unittest

from sameshape import errors

PLAIN = ("VersionReleased", "TooManyVersions", "TooManyTags", "StoreFull", "QuotaExceeded", "DifferentStores",
         "WrongKind", "UnknownOperation", "QueueEmpty", "EmptyInterval", "IntervalOutOfRange", "ChangesDoNotFollow",
         "DeltaTooLarge", "UnknownBaseNodes", "NotCanonical", "LedgerFull")
WITH_PLACE = ("IndexOutOfRange", "InvalidInstruction", "RecipeTooLarge", "InvalidPiece", "ChangeDoesNotApply",
              "InvalidNode", "InvalidRoot", "InvalidContents", "InvalidNumber", "UnknownVersion", "InvalidRecord")
WITH_COUNT = ("TooManyElements", "PackTooLarge")
WITH_NAME = ("UnknownTag",)
ALL = PLAIN + WITH_PLACE + WITH_COUNT + WITH_NAME


class ErrorsTest(unittest.TestCase):
    def check_raised(self, name, *given):
        found = getattr(errors, name)
        for base in (found, errors.ShapeError, ValueError):
            with self.assertRaises(base) as caught:
                raise found(*given)
            self.assertIs(type(caught.exception), found)
        return caught.exception

    def test_the_base_class(self):
        self.assertTrue(issubclass(errors.ShapeError, ValueError))
        self.check_raised("ShapeError")

    def test_errors_without_attributes(self):
        for name in PLAIN:
            with self.subTest(name):
                error = self.check_raised(name)
                self.assertEqual(vars(error), {})

    def test_errors_with_one_attribute(self):
        for names, attribute, value in ((WITH_PLACE, "place", 3), (WITH_PLACE, "place", 0),
                                        (WITH_COUNT, "count", 2001), (WITH_NAME, "name", "start"),
                                        (WITH_NAME, "name", "")):
            for name in names:
                with self.subTest(name):
                    error = self.check_raised(name, value)
                    self.assertEqual(vars(error), {attribute: value})

    def test_no_error_is_a_subclass_of_another_one(self):
        for name in ALL:
            for other in ALL:
                if name != other:
                    self.assertFalse(issubclass(getattr(errors, name), getattr(errors, other)), (name, other))

    def test_each_error_stands_in_its_file(self):
        for name in ALL + ("ShapeError",):
            self.assertEqual(getattr(errors, name).__module__, "sameshape.errors")
        listed = {name for name, value in vars(errors).items() if isinstance(value, type)}
        self.assertEqual(listed, set(ALL + ("ShapeError",)))


if __name__ == "__main__":
    unittest.main()
