"""The canonical tree of a tuple of elements."""

from sameshape.blocks import cut_at, starts_of
from sameshape.colors import colors_of
from sameshape.nodes import copies_of, items_of, number_node


def leaf_row(contents):
    """Return the tuple of the nodes of level 0."""
    return tuple([("leaf", element) for element in contents])


def build_levels(contents):
    """Return a list with a tuple (nodes, items, colors, starts) for each level."""
    levels = []
    nodes = leaf_row(contents)
    while nodes:
        items = items_of(nodes)
        colors = colors_of(items)
        starts = starts_of(colors)
        levels.append((nodes, items, colors, starts))
        nodes = cut_at(items, starts) if len(items) > 1 else ()
    return levels


def tree_of(contents):
    """Return the root of the canonical tree, or None if there are no elements."""
    if not contents:
        return None
    items = build_levels(contents)[-1][1]
    return items[0]


def levels_of(contents):
    """Return the tuple of the reports on all levels."""
    reports = []
    for nodes, items, colors, starts in build_levels(contents):
        runs = tuple([copies_of(item) for item in items])
        reports.append((len(nodes), runs, colors, starts))
    return tuple(reports)


def number_tree(contents, numbers, found):
    """Give numbers to all nodes of the canonical tree, as number_node does.

    Return the number of its root, or None if there are no elements.
    """
    return number_node(tree_of(contents), numbers, found) if contents else None


def table_of(contents):
    """Return the node table."""
    numbers = {}
    number_tree(contents, numbers, [])
    return tuple(list(numbers))
