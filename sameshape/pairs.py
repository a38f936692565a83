"""Rows of tuples in the order of their first scalars."""

from sameshape.codes import compare_scalars, order_of


def many_below(rows, scalar):
    """Return how many of the rows have a first scalar that comes before the given one."""
    low = 0
    high = len(rows)
    while low < high:
        middle = (low + high) // 2
        if compare_scalars(rows[middle][0], scalar) < 0:
            low = middle + 1
        else:
            high = middle
    return low


def values_of(entries):
    """Return a dict with the value of each key; of several entries with one key the last one counts."""
    return {key: value for key, value in entries}


def entries_of(values):
    """Return the tuple of the entries of a dict in the order of the keys; a key with the value None has no entry."""
    return tuple([(key, values[key]) for key in sorted(values, key=order_of) if values[key] is not None])


def keys_of(many):
    """Return the list of all keys of several rows of tuples, which begin with their keys, in order and each once."""
    found = {}
    for rows in many:
        for row in rows:
            found[row[0]] = True
    return sorted(found, key=order_of)
