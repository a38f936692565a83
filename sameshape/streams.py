"""Elements that arrive in several portions."""

from sameshape.growing import Growth, rest_of
from sameshape.limits import check_count


class Stream:
    """The elements that were taken so far, and what is settled of their tree."""

    def __init__(self):
        self._taken = []
        self._growth = Growth()

    def __len__(self):
        return len(self._taken)

    @property
    def rest(self):
        """The tuple of the triples (level, start, end) of the nodes that are not settled."""
        return rest_of(self._growth)

    def feed(self, contents):
        """Take the elements and return the tuple of the new settlements."""
        check_count(len(self._taken) + len(contents))
        found = []
        for element in contents:
            found.extend(self._growth.take(element))
        self._taken.extend(contents)
        return tuple(found)
