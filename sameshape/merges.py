"""Merging two maps that came about from one."""

from sameshape.limits import checked
from sameshape.pairs import entries_of, keys_of, values_of


def value_rows(base, ours, theirs):
    """Return the list of the tuples (key, base, ours, theirs) with the values of each key, in order of the keys."""
    first = values_of(base)
    second = values_of(ours)
    third = values_of(theirs)
    return [(key, first.get(key), second.get(key), third.get(key)) for key in keys_of((base, ours, theirs))]


def is_conflict(row):
    """Return True if the three values of a key are all different, otherwise False."""
    _, old, mine, other = row
    return old != mine and old != other and mine != other


def conflicts_of(base, ours, theirs):
    """Return the tuple of the conflicts in the order of their keys."""
    return tuple([row for row in value_rows(base, ours, theirs) if is_conflict(row)])


def merged(base, ours, theirs):
    """Return the contents of the merged map, or None if a key is in conflict."""
    values = {}
    for row in value_rows(base, ours, theirs):
        if is_conflict(row):
            return None
        key, old, mine, other = row
        values[key] = mine if other == old else other
    return checked(entries_of(values))
