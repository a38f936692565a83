"""The greatest number of elements of contents."""

from sameshape.errors import TooManyElements

MOST = 2000


def check_count(count):
    """Raise TooManyElements if this is more than the greatest number of elements."""
    if count > MOST:
        raise TooManyElements(count)


def checked(contents):
    """Return the contents, or raise TooManyElements if they have too many elements."""
    check_count(len(contents))
    return contents
