"""The colors of a row of items."""

from sameshape.nodes import children_of, code_length, head_of

ROUNDS = 4


def first_difference(old, new):
    """Return the first position at which two codes differ, neither of which is a beginning of the other one."""
    place = 0
    while old[place] == new[place]:
        place += 1
    return place


def differing_children(old, new):
    """Return the first children that differ, and how many numbers the codes of the children before them have."""
    olds = children_of(old)
    news = children_of(new)
    place = 0
    passed = 0
    while olds[place] == news[place]:
        passed = passed + code_length(news[place])
        place += 1
    return olds[place], news[place], passed


def coin_after(before, item):
    """Return the coin of an item that comes after another item.

    Large neighbors can have long codes, so only the way down to the first difference is looked at.
    """
    passed = 0
    old, new = before, item
    old_head, new_head = head_of(old), head_of(new)
    while old_head == new_head:
        old, new, more = differing_children(old, new)
        passed = passed + len(new_head) + more
        old_head, new_head = head_of(old), head_of(new)
    place = first_difference(old_head, new_head)
    return 65536 * (passed + place) + new_head[place]


def coins_of(items):
    """Return the tuple of the coins of a row of items."""
    if not items:
        return ()
    coins = [head_of(items[0])[0]]
    for place in range(1, len(items)):
        coins.append(coin_after(items[place - 1], items[place]))
    return tuple(coins)


def mix(a, b):
    """Return twice the position of the lowest bit in which two integers differ, plus this bit of the second one."""
    differing = a ^ b
    place = (differing & -differing).bit_length() - 1
    return 2 * place + ((b >> place) & 1)


def one_round(numbers):
    """Return the tuple of the numbers after one round."""
    if not numbers:
        return ()
    after = [numbers[0] & 1]
    for place in range(1, len(numbers)):
        after.append(mix(numbers[place - 1], numbers[place]))
    return tuple(after)


def colors_of(items):
    """Return the tuple of the colors of a row of items."""
    numbers = coins_of(items)
    for _ in range(ROUNDS):
        numbers = one_round(numbers)
    return numbers


def first_steps(item):
    """Return the coin of the first item of a row and its numbers after each of the rounds."""
    coin = head_of(item)[0]
    return (coin,) + (coin & 1,) * ROUNDS


def steps_after(before, steps, item):
    """Return the coin of an item and its numbers after each of the rounds.

    `steps` are those of the item before it. So a row can grow item by item.
    """
    found = [coin_after(before, item)]
    for place in range(ROUNDS):
        found.append(mix(steps[place], found[place]))
    return tuple(found)
