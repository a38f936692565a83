"""Questions about canonical trees."""

from sameshape.nodes import copies_of, leaves_of
from sameshape.trees import build_levels, number_tree, tree_of


def leaf_spans(many):
    """Return the tuple of the spans of the nodes of level 0."""
    return tuple([(place, place + 1) for place in range(many)])


def block_spans(spans, items, starts):
    """Return the tuple of the spans of the blocks that start at these positions of a row of items.

    `spans` are those of the nodes that the items group.
    """
    firsts = []
    place = 0
    for item in items:
        firsts.append(spans[place][0])
        place = place + copies_of(item)
    begins = [firsts[start] for start in starts]
    ends = begins[1:] + [spans[-1][1]]
    return tuple(zip(begins, ends))


def spans_of(contents):
    """Return a tuple with the tuple of the spans of the nodes of each level."""
    found = []
    spans = leaf_spans(len(contents))
    for level in build_levels(contents):
        found.append(spans)
        spans = block_spans(spans, level[1], level[3])
    return tuple(found)


def is_tree(node):
    """Return True if a node is the canonical tree of the elements of its leaves, otherwise False."""
    return node == tree_of(leaves_of(node))


def fresh_nodes(contents, bases):
    """Return the tuple of the nodes of the tree of the contents that occur in the tree of no base."""
    numbers = {}
    found = []
    for base in bases:
        number_tree(base, numbers, found)
    known = len(found)
    number_tree(contents, numbers, found)
    return tuple(found[known:])
