"""Sorted maps: entries in the order of their keys."""

from sameshape.limits import checked
from sameshape.pairs import entries_of, many_below, values_of


def map_of(entries):
    """Return the contents of the map that is made of some entries."""
    return checked(entries_of(values_of(entries)))


def end_of_key(contents, key):
    """Return how many keys of the map are at most the given one."""
    rank = rank_of(contents, key)
    return rank + 1 if rank < len(contents) and contents[rank][0] == key else rank


def value_at(contents, key):
    """Return the value of a key, or None."""
    entry = entry_from(contents, key)
    return entry[1] if entry is not None and entry[0] == key else None


def rank_of(contents, key):
    """Return how many keys of the map are less than the given one."""
    return many_below(contents, key)


def entry_up_to(contents, key):
    """Return the entry with the greatest key that is not greater than the given one, or None."""
    end = end_of_key(contents, key)
    return contents[end - 1] if end > 0 else None


def entry_from(contents, key):
    """Return the entry with the least key that is not less than the given one, or None."""
    rank = rank_of(contents, key)
    return contents[rank] if rank < len(contents) else None


def with_entry(contents, key, value):
    """Return the map in which a key has a value."""
    return checked(contents[:rank_of(contents, key)] + ((key, value),) + contents[end_of_key(contents, key):])


def without_key(contents, key):
    """Return the map without a key."""
    return checked(contents[:rank_of(contents, key)] + contents[end_of_key(contents, key):])


def between(contents, start, end):
    """Return the map of the entries whose keys are at least start and less than end."""
    return checked(contents[rank_of(contents, start):rank_of(contents, end)])


def joined_maps(first, second):
    """Return the map of the entries of both maps, with the values of the second one where both have a key."""
    return map_of(first + second)


def common_keys(first, second):
    """Return the map of the entries of the first map whose keys the second one has."""
    known = values_of(second)
    return checked(tuple([entry for entry in first if entry[0] in known]))


def other_keys(first, second):
    """Return the map of the entries of the first map whose keys the second one does not have."""
    known = values_of(second)
    return checked(tuple([entry for entry in first if entry[0] not in known]))
