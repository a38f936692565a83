"""The words of the document about recipes, deltas and collections worked out again, to hold the program against."""

from tests import model


def recipe_results(recipe, bases):
    """The results of the instructions of a recipe, all of which are valid."""
    results = []
    for instruction in recipe:
        found = []
        if instruction[0] == "literal":
            found.append(instruction[1])
        elif instruction[0] == "copy":
            for index in range(instruction[2], instruction[3]):
                found.append(bases[instruction[1]][index])
        elif instruction[0] == "concat":
            for part in instruction[1]:
                found += results[part]
        else:
            for _ in range(instruction[2]):
                found += results[instruction[1]]
        results.append(found)
    return [tuple(found) for found in results]


def occurrences(node, root, start):
    """The starts of all occurrences of a node in the tree below a root, from left to right; a run counts once."""
    found = [start] if node == root else []
    if root[0] == "run":
        found += occurrences(node, root[1], start)
    if root[0] == "block":
        for child in root[1]:
            found += occurrences(node, child, start)
            start += len(model.leaves(child))
    return found


def copy_of(node, bases):
    """The instruction that copies a node from the first base whose tree contains it, or None."""
    for number, base in enumerate(bases):
        starts = occurrences(node, model.tree(base), 0) if base else []
        if starts:
            return ("copy", number, starts[0], starts[0] + len(model.leaves(node)))
    return None


def visit(node, bases, recipe, nodes):
    """Append the instructions for a node; `nodes` are those that have instructions, in the same order."""
    if node in nodes:
        return
    instruction = copy_of(node, bases)
    if instruction is None and node[0] == "leaf":
        instruction = ("literal", node[1])
    elif instruction is None and node[0] == "run":
        visit(node[1], bases, recipe, nodes)
        instruction = ("repeat", nodes.index(node[1]), node[2])
    elif instruction is None:
        for child in node[1]:
            visit(child, bases, recipe, nodes)
        instruction = ("concat", tuple(nodes.index(child) for child in node[1]))
    recipe.append(instruction)
    nodes.append(node)


def found_recipe(contents, bases):
    recipe = []
    if contents:
        visit(model.tree(contents), bases, recipe, [])
    return tuple(recipe)


def archive(many):
    recipe = []
    nodes = []
    places = []
    for contents in many:
        if contents:
            visit(model.tree(contents), (), recipe, nodes)
        places.append(nodes.index(model.tree(contents)) if contents else None)
    return tuple(recipe), tuple(places)


def found_delta(contents, bases):
    delta = []
    left = contents
    while left:
        piece = ("insert", left[0])
        for many in range(1, len(left) + 1):
            places = [("copy", number, start, start + many) for number, base in enumerate(bases)
                      for start in range(len(base)) if base[start:start + many] == left[:many]]
            if places:
                piece = places[0]
        delta.append(piece)
        left = left[1:] if piece[0] == "insert" else left[piece[3] - piece[2]:]
    return tuple(delta)


def comes_before(a, b):
    """Whether the scalar a comes before the scalar b."""
    if isinstance(a, int) and isinstance(b, int):
        return a < b
    if isinstance(a, str) and isinstance(b, str):
        return a.encode("ascii") < b.encode("ascii")
    return isinstance(a, int)


def in_order(rows):
    """The rows in the order of their first scalars; rows with equal ones keep their order."""
    found = []
    for row in rows:
        place = len(found)
        while place > 0 and comes_before(row[0], found[place - 1][0]):
            place -= 1
        found.insert(place, row)
    return tuple(found)


def map_of(entries):
    last = {}
    for entry in entries:
        last[entry[0]] = entry
    return in_order(last.values())


def value_in(contents, key):
    values = [entry[1] for entry in contents if entry[0] == key]
    return values[0] if values else None


def keys_in(*maps):
    """All keys of some maps in ascending order."""
    return [key for key, _ in map_of([(row[0], 0) for contents in maps for row in contents])]


def changes_between(first, second):
    rows = [(key, value_in(first, key), value_in(second, key)) for key in keys_in(first, second)]
    return tuple(row for row in rows if row[1] != row[2])


def changed(contents, changes):
    rows = list(contents)
    for key, _, after in changes:
        rows = [row for row in rows if row[0] != key]
        if after is not None:
            rows.append((key, after))
    return in_order(rows)


def value_rows(base, ours, theirs):
    return [(key, value_in(base, key), value_in(ours, key), value_in(theirs, key))
            for key in keys_in(base, ours, theirs)]


def conflicts(base, ours, theirs):
    return tuple(row for row in value_rows(base, ours, theirs) if len(set(row[1:])) == 3)


def merged(base, ours, theirs):
    if conflicts(base, ours, theirs):
        return None
    rows = [(key, b if a == c else c) for key, a, b, c in value_rows(base, ours, theirs)]
    return tuple(row for row in rows if row[1] is not None)


def numbers_of(intervals):
    """The set of the integers that belong to at least one of the intervals."""
    return {number for start, end in intervals for number in range(start, end)}


def intervals_with(numbers):
    """The contents of the interval set with these numbers."""
    found = []
    for number in sorted(numbers):
        if number - 1 in numbers:
            found[-1] = (found[-1][0], number + 1)
        else:
            found.append((number, number + 1))
    return tuple(found)
