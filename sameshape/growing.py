"""The settled nodes of the levels while elements are appended."""

from sameshape.blocks import cut_at, starts_of
from sameshape.colors import first_steps, steps_after
from sameshape.nodes import copies_of, item_of, items_of


def row_of(rows, item, start):
    """Return the row (item, start, steps) of an item whose first element has the index `start`.

    `rows` is the list of the rows of the items before it; it is empty only before the first item of a level.
    """
    if not rows:
        return (item, start, first_steps(item))
    before, _, steps = rows[-1]
    return (item, start, steps_after(before, steps, item))


class Level:
    """The settled nodes of one level, which are taken one after the other.

    The last item can still grow: `last` is its node, how many there are, and its start. The items before it are
    complete: `rows` has those that belong to no settled block; so the first of them begins a block.
    """

    def __init__(self):
        self.many = 0
        self.rows = []
        self.last = None

    def take(self, node, start):
        """Take the next node and return the block that is settled by this, with its span, or None."""
        self.many += 1
        if self.last is None:
            self.last = (node, 1, start)
            return None
        last_node, copies, last_start = self.last
        if node == last_node:
            self.last = (node, copies + 1, last_start)
            return None
        self.rows.append(row_of(self.rows, item_of(last_node, copies), last_start))
        self.last = (node, 1, start)
        return self.cut_block()

    def cut_block(self):
        """Return the first block, with its span, and forget its items; return None if it is not settled yet.

        A block is settled when two complete items and the last one follow it, so only one place is looked at.
        None starts right behind the first row, either by its color or by the rule for position 1.
        """
        place = len(self.rows) - 2
        if place < 2:
            return None
        before, here, behind = [row[2][-1] for row in self.rows[place - 1:]]
        if before >= here or behind >= here:
            return None
        block = ("block", tuple([row[0] for row in self.rows[:place]]))
        start, end = self.rows[0][1], self.rows[place][1]
        self.rows = self.rows[place:]
        return block, start, end


class Growth:
    """The levels of a tuple of elements that grows at its end."""

    def __init__(self):
        self.many = 0
        self.levels = []

    def take(self, element):
        """Take the next element and return the list of the settlements after it."""
        start = self.many
        self.many += 1
        found = []
        settled = self.level_at(0).take(("leaf", element), start)
        while settled is not None:
            block, start, end = settled
            number = len(found) + 1
            found.append((self.many, number, start, end))
            settled = self.level_at(number).take(block, start)
        return found

    def level_at(self, number):
        """Return the level of this number, which is at most the next new one."""
        if number == len(self.levels):
            self.levels.append(Level())
        return self.levels[number]


def rows_behind(level, nodes):
    """Return the list of the rows of all items that belong to no settled block.

    `nodes` is the list of the nodes behind the settled ones of the level, each with its start.
    """
    if level.last is not None:
        last_node, copies, last_start = level.last
        nodes = [(last_node, last_start)] * copies + nodes
    rows = list(level.rows)
    place = 0
    for item in items_of(tuple([node for node, _ in nodes])):
        rows.append(row_of(rows, item, nodes[place][1]))
        place = place + copies_of(item)
    return rows


def blocks_behind(level, nodes):
    """Return the list of the nodes of the next level that are not settled, each with its start.

    It is empty if the level is the last one. `nodes` is as above.
    """
    rows = rows_behind(level, nodes)
    if len(rows) < 2:
        return []
    items = tuple([row[0] for row in rows])
    # The first row begins a block, so none starts behind it, either by its color or by the rule for position 1.
    starts = starts_of(tuple([row[2][-1] for row in rows]))
    return [(block, rows[start][1]) for block, start in zip(cut_at(items, starts), starts)]


def rest_of(growth):
    """Return the tuple of the triples (level, start, end) of all nodes from level 1 on that are not settled."""
    found = []
    number = 0
    nodes = blocks_behind(growth.levels[0], []) if growth.levels else []
    while nodes:
        number += 1
        starts = [start for _, start in nodes]
        ends = starts[1:] + [growth.many]
        found.extend([(number, start, end) for start, end in zip(starts, ends)])
        level = growth.levels[number] if number < len(growth.levels) else Level()
        nodes = blocks_behind(level, nodes)
    return tuple(found)
