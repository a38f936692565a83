"""The nodes that further elements cannot change."""

from sameshape.blocks import cut_at, starts_of
from sameshape.colors import colors_of
from sameshape.growing import Growth
from sameshape.nodes import items_of
from sameshape.shapes import block_spans, leaf_spans
from sameshape.trees import leaf_row

ITEMS_BEFORE = 7
ITEMS_BEHIND = 3


def settled_of(contents):
    """Return the tuple of the numbers of settled nodes of the levels."""
    growth = Growth()
    for element in contents:
        growth.take(element)
    return tuple([level.many for level in growth.levels])


def settlements(contents):
    """Yield the settlements in their order."""
    growth = Growth()
    for element in contents:
        yield from growth.take(element)


def fixed_blocks(items, starts):
    """Return the list of the indices of the blocks that items before and behind them keep from changing."""
    ends = starts[1:] + (len(items),)
    found = []
    for place, start in enumerate(starts):
        if start >= ITEMS_BEFORE and ends[place] + ITEMS_BEHIND <= len(items):
            found.append(place)
    return found


def fixed_of(contents):
    """Return a tuple with the tuple of the spans of the fixed nodes of each level that has some."""
    found = []
    nodes = leaf_row(contents)
    spans = leaf_spans(len(contents))
    while nodes:
        found.append(spans)
        items = items_of(nodes)
        starts = starts_of(colors_of(items))
        places = fixed_blocks(items, starts)
        blocks = cut_at(items, starts)
        nodes = tuple([blocks[place] for place in places])
        all_spans = block_spans(spans, items, starts)
        spans = tuple([all_spans[place] for place in places])
    return tuple(found)
