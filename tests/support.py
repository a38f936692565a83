"""What the tests of several modules need."""

import pickle
import unittest


class RowCase(unittest.TestCase):
    """A test case that looks at rows of values."""

    def assert_rows(self, value):
        """Every row in a value is a tuple, and every integer is a plain one."""
        if value is None or type(value) is int or type(value) is str:
            return
        self.assertIs(type(value), tuple)
        for part in value:
            self.assert_rows(part)

    def assert_result(self, expected, function, *given, **named):
        """The function returns what is expected, in tuples, and changes nothing that it is given."""
        before = pickle.dumps((given, named))
        found = function(*given, **named)
        self.assert_rows(found)
        self.assertEqual(found, expected)
        self.assertEqual((given, named), pickle.loads(before))

    def assert_refused(self, error, function, *given, **named):
        """The function raises such an error with such attributes, and changes nothing that it is given."""
        before = pickle.dumps((given, named))
        with self.assertRaises(type(error)) as caught:
            function(*given, **named)
        self.assertIs(type(caught.exception), type(error))
        self.assertEqual(vars(caught.exception), vars(error))
        self.assertEqual((given, named), pickle.loads(before))
