"""Packs, which transfer collections to a receiver that has some contents already."""

from sameshape.errors import (InvalidNode, InvalidRoot, NotCanonical, PackTooLarge, TooManyElements,
                              UnknownBaseNodes)
from sameshape.kinds import check_parts
from sameshape.limits import MOST
from sameshape.nodes import children_of
from sameshape.numbering import Numbering, number_table, size_with, tabled

MOST_ENTRIES = 4000


def numbering_of(bases):
    """Return the numbering of the distinct nodes of the trees of some contents."""
    numbering = Numbering()
    for _, _, table in tabled([("sequence", base) for base in bases]):
        fresh = {}
        number_table(table, numbering.numbers, fresh, len(numbering.entries))
        numbering.put(fresh)
    return numbering


def whole_pack(rows, numbering):
    """Return the pack of some rows (kind, contents, node table), however many entries it has.

    The numbering has the nodes of the bases; it is not changed.
    """
    known = len(numbering.entries)
    fresh = {}
    roots = []
    for kind, _, table in rows:
        roots.append((kind, number_table(table, numbering.numbers, fresh, known)))
    return known, tuple(fresh), tuple(roots)


def packed(rows, numbering):
    """Return the pack as above, if it does not have too many entries."""
    pack = whole_pack(rows, numbering)
    count = len(pack[1])
    if count > MOST_ENTRIES:
        raise PackTooLarge(count)
    return pack


def check_numbers(pack):
    """Raise an error if an entry or a root of a pack refers to a node that is not there."""
    known, entries, roots = pack
    for place, entry in enumerate(entries):
        if any([child >= known + place for child in children_of(entry)]):
            raise InvalidNode(place)
    for place, (_, root) in enumerate(roots):
        if root is not None and root >= known + len(entries):
            raise InvalidRoot(place)


def check_sizes(pack, numbering):
    """Raise TooManyElements if the node of a root of a pack is too large."""
    sizes = list(numbering.sizes)
    for entry in pack[1]:
        # How much larger a node is does not matter, and the numbers stay small.
        sizes.append(min(size_with(entry, sizes), MOST + 1))
    for _, root in pack[2]:
        if root is not None and sizes[root] > MOST:
            raise TooManyElements(MOST + 1)


def contents_below(entries, root):
    """Return the tuple of the elements of the leaves below a node."""
    found = []
    stack = [] if root is None else [root]
    while stack:
        entry = entries[stack.pop()]
        if entry[0] == "leaf":
            found.append(entry[1])
        elif entry[0] == "run":
            stack.extend([entry[1]] * entry[2])
        else:
            stack.extend(entry[1][::-1])
    return tuple(found)


def unpacked_rows(pack, numbering):
    """Return the rows (kind, contents, node table) whose pack is the given one.

    The numbering has the nodes of the bases; it is not changed.
    """
    known, entries, roots = pack
    if known != len(numbering.entries):
        raise UnknownBaseNodes()
    check_numbers(pack)
    check_sizes(pack, numbering)
    together = numbering.entries + list(entries)
    parts = [(kind, contents_below(together, root)) for kind, root in roots]
    check_parts(parts)
    rows = tabled(parts)
    if len(entries) > MOST_ENTRIES or whole_pack(rows, numbering) != pack:
        raise NotCanonical()
    return rows


def parts_of(rows):
    """Return the tuple of the pairs (kind, contents) of some rows."""
    return tuple([(kind, contents) for kind, contents, _ in rows])


def pack_of(parts, *, bases=()):
    """Return the pack of some parts."""
    return packed(tabled(parts), numbering_of(bases))


def unpacked(pack, *, bases=()):
    """Return the tuple of the parts of which this is the pack."""
    return parts_of(unpacked_rows(pack, numbering_of(bases)))
