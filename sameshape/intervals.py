"""Interval sets: finite sets of integers as the fewest intervals."""

from sameshape.codes import FAR
from sameshape.errors import EmptyInterval, IntervalOutOfRange
from sameshape.limits import checked


def check_interval(start, end):
    """Raise EmptyInterval if an interval contains no integers."""
    if start >= end:
        raise EmptyInterval()


def check_range(contents):
    """Raise IntervalOutOfRange if an interval begins or ends too far away."""
    if contents and (contents[0][0] < -FAR or contents[-1][1] > FAR):
        raise IntervalOutOfRange()


def fewest(intervals):
    """Return the fewest intervals with the numbers of the given ones, none of which is empty."""
    found = []
    for start, end in sorted(intervals):
        if found and start <= found[-1][1]:
            low, high = found[-1]
            found[-1] = (low, max(high, end))
        else:
            found.append((start, end))
    return tuple(found)


def in_both(first, second):
    """Return the intervals of the numbers that belong to both sets."""
    found = []
    place = 0
    other = 0
    while place < len(first) and other < len(second):
        start = max(first[place][0], second[other][0])
        end = min(first[place][1], second[other][1])
        if start < end:
            found.append((start, end))
        if first[place][1] < second[other][1]:
            place += 1
        else:
            other += 1
    return tuple(found)


def spaces_of(contents, start, end):
    """Return the intervals of the integers of an interval that do not belong to a set."""
    found = []
    place = start
    for low, high in contents:
        if place < min(low, end):
            found.append((place, min(low, end)))
        place = max(place, high)
    if place < end:
        found.append((place, end))
    return tuple(found)


def in_first(first, second):
    """Return the intervals of the numbers that belong to the first set, but not to the second one."""
    if not first:
        return ()
    return in_both(first, spaces_of(second, first[0][0], first[-1][1]))


def intervals_of(intervals):
    """Return the contents of the set that is made of some intervals."""
    for start, end in intervals:
        check_interval(start, end)
    return checked(fewest(intervals))


def with_interval(contents, start, end):
    """Return the set with the numbers of an interval."""
    check_interval(start, end)
    return checked(fewest(contents + ((start, end),)))


def without_interval(contents, start, end):
    """Return the set without the numbers of an interval."""
    check_interval(start, end)
    return checked(in_first(contents, ((start, end),)))


def shifted(contents, by):
    """Return the set of the numbers to each of which an integer was added."""
    found = tuple([(start + by, end + by) for start, end in contents])
    check_range(found)
    return checked(found)


def grown(contents, before, after):
    """Return the set of the numbers and of so many integers before and after each of them."""
    found = fewest([(start - before, end + after) for start, end in contents])
    check_range(found)
    return checked(found)


def shrunk(contents, before, after):
    """Return the set of the integers that have so many numbers before and after them and are numbers themselves."""
    found = [(start + before, end - after) for start, end in contents]
    return checked(tuple([(start, end) for start, end in found if start < end]))


def united(first, second):
    """Return the set of the numbers that belong to at least one of two sets."""
    return checked(fewest(first + second))


def common_numbers(first, second):
    """Return the set of the numbers that belong to both sets."""
    return checked(in_both(first, second))


def other_numbers(first, second):
    """Return the set of the numbers that belong to the first set, but not to the second one."""
    return checked(in_first(first, second))
