"""The words of the document about packs and their integers worked out again."""

from tests import model, stores_model

KINDS = ("sequence", "map", "queue", "intervals")
FAR = 10 ** 15


def nodes_of(many):
    """The distinct nodes of the trees of several contents, in their order."""
    found = {}
    for contents in many:
        for node in stores_model.nodes_of(contents):
            found[node] = True
    return list(found)


def pack(parts, bases):
    known = nodes_of(bases)
    nodes = nodes_of(list(bases) + [contents for _, contents in parts])
    numbers = {node: number for number, node in enumerate(nodes)}
    entries = stores_model.entries_of(nodes)[len(known):]
    roots = tuple((kind, numbers[model.tree(contents)] if contents else None) for kind, contents in parts)
    return len(known), entries, roots


def written(told):
    """The integers as which a pack is written."""
    known, entries, roots = told
    found = [known, len(entries)]
    for entry in entries:
        if entry[0] == "leaf":
            found += model.element_code(entry[1])
        elif entry[0] == "run":
            found += [5, entry[2], entry[1]]
        else:
            found += [6, len(entry[1]), *entry[1]]
    found.append(len(roots))
    for kind, root in roots:
        found += [1 + KINDS.index(kind), 0 if root is None else 1 + root]
    return tuple(found)


def one_of(low, high):
    """Ask for an integer of a range."""
    number = yield lambda asked: low <= asked <= high
    return number


def integer_form(sign):
    """The four digits of an integer of this sign."""
    digits = []
    for left in (3, 2, 1, 0):
        def may_come(digit):
            least = 0
            for known in digits + [digit] + [0] * left:
                least = 65536 * least + known
            return least <= FAR and (left > 0 or least > 0 or sign > 0)
        digits.append((yield may_come))


def text_form(least):
    many = yield from one_of(least, 20)
    for _ in range(many):
        yield lambda code: chr(code) in [chr(place) for place in range(32, 127)] and chr(code) != chr(37)


def scalar_form(word):
    if word == 3:
        yield from text_form(0)
    else:
        yield from integer_form(1 if word == 1 else -1)


def entry_form():
    word = yield from one_of(1, 6)
    if word <= 3:
        yield from scalar_form(word)
    elif word == 4:
        for _ in range(2):
            yield from scalar_form((yield from one_of(1, 3)))
    elif word == 5:
        yield from one_of(2, 65535)
        yield from one_of(0, 65534)
    else:
        for _ in range((yield from one_of(2, 12))):
            yield from one_of(0, 65534)


def pack_form(least, most):
    """The integers of a pack with so many roots; it asks for them one by one, with a test for what may come next."""
    yield from one_of(0, 65534)
    for _ in range((yield from one_of(0, 4000))):
        yield from entry_form()
    for _ in range((yield from one_of(least, most))):
        yield from one_of(1, 4)
        yield from one_of(0, 65535)


def agreeing(numbers, form):
    """How many of the first integers fit a form, and whether the form wants no more of them."""
    may_come = next(form)
    for place, number in enumerate(numbers):
        if not may_come(number):
            return place, False
        try:
            may_come = form.send(number)
        except StopIteration:
            return place + 1, True
    return len(numbers), False


def wrong_place(numbers):
    """The place at which a row of integers stops being that of a pack, or None if it is one."""
    place, is_whole = agreeing(numbers, pack_form(0, 8))
    return None if is_whole and place == len(numbers) else place
