"""Numbers by which the nodes of several trees are told apart."""

from sameshape.nodes import children_of
from sameshape.trees import table_of


def tabled(parts):
    """Return the tuple of the rows (kind, contents, node table) of some pairs of a kind and contents."""
    return tuple([(kind, contents, table_of(contents)) for kind, contents in parts])


def renumbered(entry, places):
    """Return an entry in which the number of each child is replaced by what stands at this place of `places`."""
    if entry[0] == "leaf":
        return entry
    if entry[0] == "run":
        return ("run", places[entry[1]], entry[2])
    return ("block", tuple([places[child] for child in entry[1]]))


def size_with(entry, sizes):
    """Return the size of the node with an entry, given the sizes of the nodes before it."""
    if entry[0] == "leaf":
        return 1
    if entry[0] == "run":
        return sizes[entry[1]] * entry[2]
    return sum([sizes[child] for child in entry[1]])


def number_table(table, numbers, fresh, first):
    """Return the number of the root of a node table, or None if the table has no entries.

    `numbers` has the numbers of the entries that are known, and is not changed. Every other node gets a number, from
    `first` on, in the dict `fresh`, which may have some nodes already.
    """
    places = []
    for entry in table:
        key = renumbered(entry, places)
        if key in numbers:
            places.append(numbers[key])
        else:
            places.append(fresh.setdefault(key, first + len(fresh)))
    return places[-1] if places else None


def table_below(entries, roots):
    """Return the entries of the distinct nodes of the trees with these roots, with indices into the returned tuple.

    `entries` has the entry of each number. A root is None if its tree has no nodes.
    """
    places = {}
    found = []
    for root in [known for known in roots if known is not None]:
        stack = [root]
        while stack:
            number = stack[-1]
            left = [child for child in children_of(entries[number]) if child not in places]
            if left:
                stack.extend(left[::-1])
            else:
                stack.pop()
                if number not in places:
                    places[number] = len(found)
                    found.append(renumbered(entries[number], places))
    return tuple(found)


def height_below(entries, root):
    """Return the height of the canonical tree with this root; it is 0 if the root is None."""
    high = 0
    number = root
    while number is not None:
        entry = entries[number]
        if entry[0] == "block":
            high += 1
        # The nodes of a level have the same height, so one child of each block is enough.
        number = None if entry[0] == "leaf" else children_of(entry)[0]
    return high


class Numbering:
    """The distinct nodes of several trees with their numbers, which are given from 0 on and never taken back."""

    def __init__(self):
        self.numbers = {}
        self.entries = []
        self.sizes = []

    def put(self, fresh):
        """Give the next numbers to nodes that have none yet, whose entries are given."""
        for entry in fresh:
            self.numbers[entry] = len(self.entries)
            self.entries.append(entry)
            self.sizes.append(size_with(entry, self.sizes))
