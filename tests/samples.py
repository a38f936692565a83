"""Contents and nodes that several tests use."""

import random

from tests import collections_model

FAR = 10 ** 15
EDGES = (-FAR, -65536 ** 3, -65537, -65536, -65535, -1, 0, 1, 65535, 65536, 65537, 65536 ** 2 - 1, 65536 ** 2,
         65536 ** 3 - 1, 65536 ** 3, FAR)
STRINGS = ("", " ", "!", "A", "a", "ab", "abc", "abd", "b", "x" * 19, "x" * 20, "~" * 20)


def picked(many, choices, seed):
    """Some elements, picked from the choices."""
    source = random.Random(seed)
    return tuple(source.choice(choices) for _ in range(many))


def stretched(many, choices, seed):
    """Elements in stretches of equal ones."""
    source = random.Random(seed)
    found = []
    while len(found) < many:
        found.extend([source.choice(choices)] * source.randint(1, 6))
    return tuple(found[:many])


def scattered(many, seed):
    """Integers from the whole range."""
    source = random.Random(seed)
    return tuple(source.randint(-FAR, FAR) for _ in range(many))


MIXED = (0, 1, -1, 7, "", "a", "ab", "abc", (1, 2), (1, "2"), ("", ""), ("a", 0), (0, "a"))

SMALL = {
    "none": (),
    "one integer": (5,),
    "one string": ("",),
    "one pair": (("a", 1),),
    "two": (1, 2),
    "two equal": ("a", "a"),
    "three equal": (7, 7, 7),
    "all equal": (("p", "q"),) * 50,
    "a root that is a run of blocks": ("x", "y", "y", "y", "x", "y", "y", "y"),
    "a root that is a run of nine blocks": ("x", "y", "y", "y") * 9,
    "a part with a stretch": (1, 2, 3, 3) * 9,
    "words": ("to", "be", "or", "not", "to", "be"),
    "ascending": tuple(range(1, 61)),
    "descending": tuple(range(30, -30, -1)),
    "edges": EDGES,
    "strings": STRINGS,
    "mixed": picked(60, MIXED, 1),
    "two values": picked(70, (0, 1), 2),
    "stretches": stretched(80, (1, 2, 3), 3),
    "stretches of mixed ones": stretched(60, MIXED, 4),
    "scattered": scattered(70, 5),
    "a part that is repeated": scattered(9, 6) * 7,
    "another part that is repeated": picked(25, ("a", "b", 3), 7) * 3,
    "a changed copy": tuple(range(40)) + tuple(range(20)) + (99,) + tuple(range(21, 40)),
}

LARGE = {
    "all different": tuple(range(2000)),
    "all equal": (7,) * 2000,
    "two values": picked(2000, ("a", "b"), 8),
    "stretches": stretched(2000, MIXED, 9),
    "a part that is repeated": scattered(400, 10) * 5,
    "pairs of long strings": tuple((f"{place:>20}", f"{place * place:<20}") for place in range(2000)),
}


def deep_node(last):
    """A node of the size 2000 and the height 12 with this last leaf."""
    row = [("leaf", place) for place in range(1999)] + [("leaf", last)]
    height = 0
    while len(row) > 1 or height < 12:
        row = [("block", tuple(row[place:place + 12])) for place in range(0, len(row), 12)]
        height += 1
    return row[0]


def any_node(source, height):
    """Some node of at most this height, whether it is a canonical tree or not."""
    if height == 0:
        node = ("leaf", source.choice((0, 1, "a", ("a", 1))))
    else:
        many = source.choice((1, 2, 2, 3))
        node = ("block", tuple(any_node(source, source.randint(0, height - 1)) for _ in range(many)))
    if source.random() < 0.3:
        # The child of a run is a leaf or a block.
        if node[0] != "run":
            node = ("run", node, source.choice((2, 3, 5)))
    return node


def any_nodes(many, height, seed):
    """Some nodes of all forms."""
    source = random.Random(seed)
    return tuple(any_node(source, height) for _ in range(many))


def any_map(many, keys, values, seed):
    """Some map with at most so many of these keys."""
    return collections_model.map_of(tuple(zip(picked(many, keys, seed), picked(many, values, seed + 1))))


def any_intervals(many, seed):
    """Some intervals, which may overlap and touch."""
    source = random.Random(seed)
    starts = [source.randint(-15, 15) for _ in range(many)]
    return tuple((start, start + source.choice((1, 1, 2, 3, 7))) for start in starts)


def any_set(many, seed):
    """Some contents of an interval set."""
    return collections_model.intervals_with(collections_model.numbers_of(any_intervals(many, seed)))


SETS = tuple(any_set(many % 7, many) for many in range(28))
