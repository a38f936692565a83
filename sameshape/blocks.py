"""The blocks into which a row of items is cut."""

from sameshape.colors import colors_of


def starts_of(colors):
    """Return the tuple of the positions at which blocks start."""
    if not colors:
        return ()
    starts = [0]
    for place in range(2, len(colors) - 1):
        if colors[place - 1] < colors[place] and colors[place] > colors[place + 1]:
            starts.append(place)
    return tuple(starts)


def cut_at(items, starts):
    """Return the tuple of the blocks that start at these positions of a row of items."""
    ends = starts[1:] + (len(items),)
    return tuple([("block", items[start:end]) for start, end in zip(starts, ends)])


def blocks_of(items):
    """Return the tuple of the blocks into which a row of items is cut."""
    return cut_at(items, starts_of(colors_of(items)))
