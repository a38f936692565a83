"""The four kinds of collections: what their contents are and what they are made of."""

from sameshape.codes import compare_scalars
from sameshape.errors import InvalidContents
from sameshape.intervals import intervals_of
from sameshape.limits import checked
from sameshape.maps import map_of
from sameshape.queues import queue_of


def contents_of(kind, rows):
    """Return the contents of the collection of a kind that is made of some elements."""
    if kind == "map":
        return map_of(rows)
    if kind == "queue":
        return queue_of(rows)
    if kind == "intervals":
        return intervals_of(rows)
    return checked(rows)


def are_pairs(contents):
    """Return True if all elements are pairs, otherwise False."""
    return all([isinstance(element, tuple) for element in contents])


def are_integers(scalars):
    """Return True if all scalars are integers, otherwise False."""
    return all([isinstance(scalar, int) for scalar in scalars])


def is_map(pairs):
    """Return True if the keys ascend, otherwise False."""
    return all([compare_scalars(before[0], after[0]) < 0 for before, after in zip(pairs, pairs[1:])])


def is_queue(pairs):
    """Return True if the priorities are integers that never decrease, otherwise False."""
    if not are_integers([priority for priority, _ in pairs]):
        return False
    return all([before[0] <= after[0] for before, after in zip(pairs, pairs[1:])])


def is_interval_set(pairs):
    """Return True if the pairs are intervals that are not empty, ascend and do not touch, otherwise False."""
    if not are_integers([scalar for pair in pairs for scalar in pair]):
        return False
    if not all([start < end for start, end in pairs]):
        return False
    return all([before[1] < after[0] for before, after in zip(pairs, pairs[1:])])


def is_valid(kind, contents):
    """Return True if contents are valid for a kind, otherwise False."""
    if kind == "sequence":
        return True
    if not are_pairs(contents):
        return False
    if kind == "map":
        return is_map(contents)
    if kind == "queue":
        return is_queue(contents)
    return is_interval_set(contents)


def check_parts(parts):
    """Raise InvalidContents if the contents of one of the pairs (kind, contents) are not valid for their kind."""
    for place, (kind, contents) in enumerate(parts):
        if not is_valid(kind, contents):
            raise InvalidContents(place)
