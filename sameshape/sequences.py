"""Sequences: any elements in any order."""

from sameshape.errors import IndexOutOfRange
from sameshape.limits import check_count, checked


def part_of(contents, start, end):
    """Return the elements from index start up to index end."""
    if end > len(contents):
        raise IndexOutOfRange(end)
    if start > end:
        raise IndexOutOfRange(start)
    return checked(contents[start:end])


def spliced(contents, start, count, inserted):
    """Return the contents in which some elements are replaced by inserted ones."""
    if start > len(contents):
        raise IndexOutOfRange(start)
    end = start + count
    if end > len(contents):
        raise IndexOutOfRange(end)
    return checked(contents[:start] + inserted + contents[end:])


def repeated(contents, times):
    """Return the elements, several times in succession."""
    check_count(len(contents) * times)
    return contents * times


def joined(first, second):
    """Return the elements of the first contents followed by those of the second."""
    return checked(first + second)


def first_place(contents, element, start):
    """Return the first index from start on at which an equal element stands, or None."""
    for place in range(start, len(contents)):
        if contents[place] == element:
            return place
    return None


def places_of(contents, pattern):
    """Return the tuple of the indices at which the elements of a pattern stand one after the other."""
    many = len(pattern)
    starts = range(len(contents) - many + 1)
    return tuple([start for start in starts if contents[start:start + many] == pattern])


def common_beginning(first, second):
    """Return how many elements agree from the beginnings on."""
    many = 0
    for one, other in zip(first, second):
        if one != other:
            return many
        many += 1
    return many


def common_end(first, second):
    """Return how many elements agree up to the ends."""
    return common_beginning(first[::-1], second[::-1])
