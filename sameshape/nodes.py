"""Nodes of trees as nested tuples."""

from sameshape.codes import code_of


def children_of(node):
    """Return the tuple of the children of a node; a run has its child once."""
    if node[0] == "leaf":
        return ()
    if node[0] == "run":
        return (node[1],)
    return node[1]


def copies_of(item):
    """Return the number of nodes of a level that form an item."""
    return item[2] if item[0] == "run" else 1


def leaves_of(node):
    """Return the tuple of the elements of the leaves below a node, in order."""
    if node[0] == "leaf":
        return (node[1],)
    if node[0] == "run":
        return leaves_of(node[1]) * node[2]
    found = []
    for child in node[1]:
        found.extend(leaves_of(child))
    return tuple(found)


def size_of(node):
    """Return the number of leaves below a node."""
    if node[0] == "leaf":
        return 1
    if node[0] == "run":
        return node[2] * size_of(node[1])
    return sum([size_of(child) for child in node[1]])


def height_of(node):
    """Return the height of a node."""
    if node[0] == "leaf":
        return 0
    if node[0] == "run":
        return height_of(node[1])
    return 1 + max([height_of(child) for child in node[1]])


def head_of(node):
    """Return the numbers of the code of a node that come before the codes of its children."""
    if node[0] == "leaf":
        return code_of(node[1])
    if node[0] == "run":
        return (5, node[2] // 65536, node[2] % 65536)
    return (6, len(node[1]))


def node_code(node):
    """Return the code of a node."""
    code = list(head_of(node))
    for child in children_of(node):
        code.extend(node_code(child))
    return tuple(code)


def code_length(node):
    """Return how many numbers the code of a node has."""
    return len(head_of(node)) + sum([code_length(child) for child in children_of(node)])


def item_of(node, copies):
    """Return the item that some copies of a leaf or block form."""
    return ("run", node, copies) if copies > 1 else node


def items_of(nodes):
    """Return the tuple of the items of a row of leaves and blocks."""
    items = []
    start = 0
    for place in range(1, len(nodes) + 1):
        if place == len(nodes) or nodes[place] != nodes[start]:
            items.append(item_of(nodes[start], place - start))
            start = place
    return tuple(items)


def number_node(node, numbers, found):
    """Return the number of a node, which is given to it and to all nodes below it if they have none.

    The keys of the dict `numbers` are entries as in a node table; so nested tuples are never compared.
    The nodes that get a number are appended to the list `found`.
    """
    if node[0] == "run":
        entry = ("run", number_node(node[1], numbers, found), node[2])
    elif node[0] == "block":
        entry = ("block", tuple([number_node(child, numbers, found) for child in node[1]]))
    else:
        entry = node
    if entry not in numbers:
        numbers[entry] = len(numbers)
        found.append(node)
    return numbers[entry]


def distinct_nodes(roots):
    """Return the tuple of the distinct nodes of the trees with these roots, in their order."""
    numbers = {}
    found = []
    for root in roots:
        number_node(root, numbers, found)
    return tuple(found)
