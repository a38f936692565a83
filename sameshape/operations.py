"""The operations by which collections are derived from others, and the words by which they are combined."""

from sameshape.changes import apply_changes
from sameshape.errors import UnknownOperation
from sameshape.gaps import gaps_of
from sameshape.intervals import (common_numbers, grown, other_numbers, shifted, shrunk, united, with_interval,
                                 without_interval)
from sameshape.limits import checked
from sameshape.maps import between, common_keys, joined_maps, other_keys, with_entry, without_key
from sameshape.queues import melded, pushed, reprioritized, without_first, without_item, without_up_to
from sameshape.sequences import joined, part_of, repeated, spliced


def from_sequence(contents, operation):
    """Return the contents that an operation derives from those of a sequence."""
    match operation:
        case ("slice", start, end):
            return part_of(contents, start, end)
        case ("splice", start, count, inserted):
            return spliced(contents, start, count, inserted)
        case ("repeat", times):
            return repeated(contents, times)
    raise UnknownOperation()


def from_map(contents, operation):
    """Return the contents that an operation derives from those of a map."""
    match operation:
        case ("put", key, value):
            return with_entry(contents, key, value)
        case ("drop", key):
            return without_key(contents, key)
        case ("between", start, end):
            return between(contents, start, end)
        case ("change", changes):
            return apply_changes(contents, changes)
    raise UnknownOperation()


def from_queue(contents, operation):
    """Return the contents that an operation derives from those of a queue."""
    match operation:
        case ("push", priority, value):
            return pushed(contents, priority, value)
        case ("pop",):
            return without_first(contents)
        case ("pop up to", priority):
            return without_up_to(contents, priority)
        case ("remove", place):
            return without_item(contents, place)
        case ("reprioritize", place, priority):
            return reprioritized(contents, place, priority)
    raise UnknownOperation()


def from_intervals(contents, operation):
    """Return the contents that an operation derives from those of an interval set."""
    match operation:
        case ("add", start, end):
            return with_interval(contents, start, end)
        case ("cut", start, end):
            return without_interval(contents, start, end)
        case ("shift", by):
            return shifted(contents, by)
        case ("grow", before, after):
            return grown(contents, before, after)
        case ("shrink", before, after):
            return shrunk(contents, before, after)
        case ("gaps", start, end):
            return gaps_of(contents, start, end)
    raise UnknownOperation()


def derived(kind, contents, operation):
    """Return the pair of the kind and the contents of the collection that an operation derives from another one."""
    if operation[0] == "as sequence":
        return "sequence", checked(contents)
    if kind == "sequence":
        return kind, from_sequence(contents, operation)
    if kind == "map":
        return kind, from_map(contents, operation)
    if kind == "queue":
        return kind, from_queue(contents, operation)
    return kind, from_intervals(contents, operation)


def combined(word, kind, first, second):
    """Return the contents of the combination of two collections of a kind."""
    match (kind, word):
        case ("sequence", "join"):
            return joined(first, second)
        case ("map", "join"):
            return joined_maps(first, second)
        case ("map", "common"):
            return common_keys(first, second)
        case ("map", "others"):
            return other_keys(first, second)
        case ("queue", "join"):
            return melded(first, second)
        case ("intervals", "join"):
            return united(first, second)
        case ("intervals", "common"):
            return common_numbers(first, second)
        case ("intervals", "others"):
            return other_numbers(first, second)
    raise UnknownOperation()
