"""Sequences in the making, with undo and redo."""

from sameshape.errors import IndexOutOfRange
from sameshape.limits import check_count


def goes_on(before, after):
    """Return True if elements of these origins stand in one piece when they are neighbors, otherwise False."""
    if before is None:
        return after is None
    return after == before + 1


def piece_of(rows):
    """Return the piece that consists of some rows of an editor."""
    start = rows[0][0]
    if start is None:
        return ("inserted", tuple([element for _, element in rows]))
    return ("kept", start, start + len(rows))


def pieces_of(rows):
    """Return the tuple of the pieces that consist of the rows of an editor."""
    found = []
    start = 0
    for place in range(1, len(rows) + 1):
        if place == len(rows) or not goes_on(rows[place - 1][0], rows[place][0]):
            found.append(piece_of(rows[start:place]))
            start = place
    return tuple(found)


def edits_of(pieces, many):
    """Return the edits of a base with so many elements by which these pieces come about."""
    found = []
    place = 0
    inserted = ()
    for piece in pieces + (("kept", many, many),):
        if piece[0] == "inserted":
            inserted = piece[1]
        else:
            if place < piece[1] or inserted:
                found.append((place, piece[1], inserted))
            place = piece[2]
            inserted = ()
    return tuple(found)


class Editor:
    """A sequence that is changed by replacements.

    `_rows` has a pair (origin, element) for each element; the origin is the index in the base, or None if the element
    was inserted. A step is a replacement: its start, the rows before it, and the rows that took their place.
    """

    def __init__(self, contents):
        self._many = len(contents)
        self._rows = tuple(enumerate(contents))
        self._contents = contents
        self._done = []
        self._undone = []

    def __len__(self):
        return len(self._contents)

    def __iter__(self):
        return iter(self._contents)

    @property
    def pieces(self):
        """The tuple of the pieces."""
        return pieces_of(self._rows)

    @property
    def contents(self):
        """The tuple of the elements."""
        return self._contents

    @property
    def edits(self):
        """The edits of the base by which the pieces come about."""
        return edits_of(pieces_of(self._rows), self._many)

    def replace_range(self, start, end, inserted):
        """Replace the elements from index start up to index end and return the new number of elements."""
        many = len(self._rows)
        if end > many:
            raise IndexOutOfRange(end)
        if start > end:
            raise IndexOutOfRange(start)
        check_count(many - (end - start) + len(inserted))
        before = self._rows[start:end]
        after = tuple([(None, element) for element in inserted])
        self._put(start, before, after)
        self._done.append((start, before, after))
        self._undone = []
        return len(self._rows)

    def undo(self):
        """Take back the last replacement and return True; return False if there is none."""
        if not self._done:
            return False
        start, before, after = self._done.pop()
        self._put(start, after, before)
        self._undone.append((start, before, after))
        return True

    def redo(self):
        """Make the replacement again that was taken back last and return True; return False if there is none."""
        if not self._undone:
            return False
        start, before, after = self._undone.pop()
        self._put(start, before, after)
        self._done.append((start, before, after))
        return True

    def _put(self, start, old, new):
        """Put the new rows in place of the old ones, which begin at an index."""
        self._rows = self._rows[:start] + new + self._rows[start + len(old):]
        self._contents = tuple([element for _, element in self._rows])
