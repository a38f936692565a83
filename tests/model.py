"""The words of the document worked out again, step by step and slowly, to hold the program against."""


def digits(number, many):
    """The digits in base 65536, the most significant one first."""
    found = []
    for _ in range(many):
        number, digit = divmod(number, 65536)
        found.insert(0, digit)
    return found


def element_code(element):
    if isinstance(element, tuple):
        return [4] + element_code(element[0]) + element_code(element[1])
    if isinstance(element, str):
        return [3, len(element)] + [ord(letter) for letter in element]
    if element >= 0:
        return [1] + digits(element, 4)
    return [2] + digits(-element, 4)


def node_code(node):
    if node[0] == "leaf":
        return element_code(node[1])
    if node[0] == "run":
        return [5] + digits(node[2], 2) + node_code(node[1])
    code = [6, len(node[1])]
    for child in node[1]:
        code += node_code(child)
    return code


def leaves(node):
    if node[0] == "leaf":
        return [node[1]]
    if node[0] == "run":
        found = []
        for _ in range(node[2]):
            found += leaves(node[1])
        return found
    return [element for child in node[1] for element in leaves(child)]


def height(node):
    if node[0] == "leaf":
        return 0
    if node[0] == "run":
        return height(node[1])
    return max(height(child) for child in node[1]) + 1


def visit(node, found):
    """Append the nodes below a node and the node, in postorder, that are not among the found ones."""
    if node[0] == "run":
        visit(node[1], found)
    if node[0] == "block":
        for child in node[1]:
            visit(child, found)
    if node not in found:
        found.append(node)


def distinct(roots):
    found = []
    for root in roots:
        visit(root, found)
    return found


def groups(nodes):
    """The maximal groups of equal neighbors, each as a list of places."""
    found = []
    for place, node in enumerate(nodes):
        if place > 0 and node == nodes[place - 1]:
            found[-1].append(place)
        else:
            found.append([place])
    return found


def items(nodes):
    found = []
    for group in groups(nodes):
        node = nodes[group[0]]
        found.append(node if len(group) == 1 else ("run", node, len(group)))
    return found


def coins(row):
    found = []
    before = []
    for item in row:
        code = node_code(item)
        place = 0
        while place < len(before) and before[place] == code[place]:
            place += 1
        found.append(65536 * place + code[place])
        before = code
    return found


def mix(a, b):
    place = 0
    while a // 2 ** place % 2 == b // 2 ** place % 2:
        place += 1
    return 2 * place + b // 2 ** place % 2


def one_round(numbers):
    found = []
    for place, number in enumerate(numbers):
        found.append(number % 2 if place == 0 else mix(numbers[place - 1], number))
    return found


def colors(row):
    return one_round(one_round(one_round(one_round(coins(row)))))


def starts(row_colors):
    last = len(row_colors) - 1
    found = []
    for place, color in enumerate(row_colors):
        if place == 0:
            found.append(place)
        elif 2 <= place <= last - 1 and row_colors[place - 1] < color > row_colors[place + 1]:
            found.append(place)
    return found


def blocks(row):
    """The blocks of a row of items, each as a triple of the block, its first place and the place behind it."""
    begins = starts(colors(row))
    ends = begins[1:] + [len(row)]
    return [(("block", tuple(row[begin:end])), begin, end) for begin, end in zip(begins, ends)]


def leaf_level(contents):
    return [(("leaf", element), place, place + 1) for place, element in enumerate(contents)]


def blocks_above(level):
    """The blocks of the items of a row of nodes with their spans.

    Each one is a pair of the node with its span and the numbers of items before and behind it.
    """
    nodes = [node for node, _, _ in level]
    members = groups(nodes)
    row = items(nodes)
    found = []
    for block, begin, end in blocks(row):
        start = level[members[begin][0]][1]
        stop = level[members[end - 1][-1]][2]
        found.append(((block, start, stop), begin, len(row) - end))
    return found


def levels(contents):
    """The nodes of each level with their spans."""
    if not contents:
        return []
    found = [leaf_level(contents)]
    while len(groups([node for node, _, _ in found[-1]])) > 1:
        found.append([node for node, _, _ in blocks_above(found[-1])])
    return found


def tree(contents):
    if not contents:
        return None
    return items([node for node, _, _ in levels(contents)[-1]])[0]


def report(level):
    nodes = [node for node, _, _ in level]
    row = items(nodes)
    return (len(nodes), tuple(len(group) for group in groups(nodes)),
            tuple(colors(row)), tuple(starts(colors(row))))


def table(contents):
    nodes = distinct([tree(contents)]) if contents else []
    entries = []
    for node in nodes:
        if node[0] == "run":
            entries.append(("run", nodes.index(node[1]), node[2]))
        elif node[0] == "block":
            entries.append(("block", tuple(nodes.index(child) for child in node[1])))
        else:
            entries.append(node)
    return tuple(entries)


def kept_levels(contents, before, behind):
    """The nodes that stay if a block needs so many items before and behind it, level by level."""
    found = []
    level = leaf_level(contents)
    while level:
        found.append(level)
        level = [node for node, many, more in blocks_above(level) if many >= before and more >= behind]
    return found


def settled(contents):
    return kept_levels(contents, 0, 3)


def fixed(contents):
    return kept_levels(contents, 7, 3)


def triples(found):
    """The level and the span of each node from level 1 on."""
    return [(number, start, end) for number, level in enumerate(found) if number > 0 for _, start, end in level]


def settlements(contents):
    found = []
    known = []
    for after in range(1, len(contents) + 1):
        now = triples(settled(contents[:after]))
        found += [(after,) + triple for triple in now if triple not in known]
        known = now
    return tuple(found)


def rest(contents):
    done = triples(settled(contents))
    return tuple(triple for triple in triples(levels(contents)) if triple not in done)
