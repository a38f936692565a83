"""What belongs to an interval set and what does not."""

from sameshape.intervals import spaces_of
from sameshape.limits import checked


def contains(contents, number):
    """Return True if a number belongs to the set, otherwise False."""
    return next_number(contents, number) == number


def many_between(contents, start, end):
    """Return how many integers of an interval belong to the set."""
    return sum([max(0, min(high, end) - max(low, start)) for low, high in contents])


def next_number(contents, number):
    """Return the least number of the set that is at least the given one, or None."""
    for start, end in contents:
        if number < end:
            return max(number, start)
    return None


def next_gap(contents, number):
    """Return the least integer that does not belong to the set and is at least the given one."""
    for start, end in contents:
        if start <= number and number < end:
            return end
    return number


def first_fit(contents, size, start, end):
    """Return the first fit of a size in an interval, or None."""
    for low, high in spaces_of(contents, start, end):
        if high - low >= size:
            return low
    return None


def gaps_of(contents, start, end):
    """Return the gaps of the set in an interval."""
    return checked(spaces_of(contents, start, end))
