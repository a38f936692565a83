"""What the tests of several modules need."""

import pickle
import unittest


def counts(store):
    """The numbers of nodes that a store holds, created and freed."""
    return (store.node_count, store.created_count, store.freed_count)


def state_of(store):
    """All that can be seen of a store."""
    versions = tuple((id(version), version.kind, version.contents) for version in store)
    return (store.capacity, counts(store), store.held, store.tag_names, len(store), versions)


class RowCase(unittest.TestCase):
    """A test case that looks at rows of values."""

    def assert_rows(self, value):
        """Every row in a value is a tuple, and every integer is a plain one."""
        if value is None or type(value) is int or type(value) is str:
            return
        self.assertIs(type(value), tuple)
        for part in value:
            self.assert_rows(part)

    def assert_result(self, expected, function, *given, **named):
        """The function returns what is expected, in tuples, and changes nothing that it is given."""
        before = pickle.dumps((given, named))
        found = function(*given, **named)
        self.assert_rows(found)
        self.assertEqual(found, expected)
        self.assertEqual((given, named), pickle.loads(before))

    def assert_raises(self, error, function, *given, **named):
        """The function raises such an error with such attributes."""
        with self.assertRaises(type(error)) as caught:
            function(*given, **named)
        self.assertIs(type(caught.exception), type(error))
        self.assertEqual(vars(caught.exception), vars(error))

    def assert_refused(self, error, function, *given, **named):
        """The function raises such an error with such attributes, and changes nothing that it is given."""
        before = pickle.dumps((given, named))
        self.assert_raises(error, function, *given, **named)
        self.assertEqual((given, named), pickle.loads(before))


class StoreCase(RowCase):
    """A test case that looks at stores."""

    def assert_part(self, version, kind, contents):
        """A version is live and has this kind and these contents."""
        self.assert_rows(version.contents)
        self.assertEqual((version.kind, version.contents, version.is_live), (kind, contents, True))

    def assert_stays(self, stores, error, function, *given, **named):
        """The function raises such an error with such attributes, and the stores stay as they are."""
        before = [state_of(store) for store in stores]
        self.assert_raises(error, function, *given, **named)
        self.assertEqual([state_of(store) for store in stores], before)
