"""Priority queues: items in the order of their priorities and, below that, in the order of pushing."""

from sameshape.errors import IndexOutOfRange, QueueEmpty
from sameshape.limits import checked
from sameshape.pairs import many_below


def priority_of(item):
    """Return the priority of an item."""
    return item[0]


def in_order(items):
    """Return the items of a queue into which some items are pushed in the given order."""
    # Sorting keeps the order of items with equal priorities.
    return tuple(sorted(items, key=priority_of))


def queue_of(items):
    """Return the contents of the queue that is made of some items."""
    return checked(in_order(items))


def many_up_to(contents, priority):
    """Return how many items have at most this priority."""
    return many_below(contents, priority + 1)


def put_in(contents, priority, value):
    """Return the items of a queue with a further item."""
    place = many_up_to(contents, priority)
    return contents[:place] + ((priority, value),) + contents[place:]


def taken_out(contents, place):
    """Return the items of a queue without the one at an index."""
    if place >= len(contents):
        raise IndexOutOfRange(place)
    return contents[:place] + contents[place + 1:]


def pushed(contents, priority, value):
    """Return the queue with a further item."""
    return checked(put_in(contents, priority, value))


def without_first(contents):
    """Return the queue without its first item."""
    if not contents:
        raise QueueEmpty()
    return checked(contents[1:])


def without_up_to(contents, priority):
    """Return the queue without the items that have at most this priority."""
    return checked(contents[many_up_to(contents, priority):])


def without_item(contents, place):
    """Return the queue without the item at an index."""
    return checked(taken_out(contents, place))


def reprioritized(contents, place, priority):
    """Return the queue in which the item at an index has got another priority."""
    others = taken_out(contents, place)
    return checked(put_in(others, priority, contents[place][1]))


def melded(first, second):
    """Return the queue of the first contents into which the items of the second ones are pushed."""
    return checked(in_order(first + second))
