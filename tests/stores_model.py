"""The words of the document about stores worked out again: which nodes are held is found out anew after each step."""

from tests import model


def nodes_of(contents):
    """The distinct nodes of the tree of some contents, in order."""
    return model.distinct([model.tree(contents)]) if contents else []


def entries_of(nodes):
    """The entries of distinct nodes that are listed in order."""
    places = {node: place for place, node in enumerate(nodes)}
    found = []
    for node in nodes:
        if node[0] == "run":
            node = ("run", places[node[1]], node[2])
        elif node[0] == "block":
            node = ("block", tuple(places[child] for child in node[1]))
        found.append(node)
    return tuple(found)


def fresh_for(many, held):
    """How many nodes of the trees of several contents are not held."""
    return len({node for contents in many for node in nodes_of(contents)} - set(held))


class StoreModel:
    """The live versions and the tags as pairs (kind, contents), the latter by their names."""

    def __init__(self):
        self.live = []
        self.tags = {}
        self.created = 0
        self.freed = 0

    def nodes(self):
        """The held nodes in order."""
        found = {}
        for _, contents in self.live + list(self.tags.values()):
            for node in nodes_of(contents):
                found[node] = True
        return list(found)

    def counts(self):
        return (len(self.nodes()), self.created, self.freed)

    def step(self, live, tags):
        """Go on with these live versions and tags."""
        before = set(self.nodes())
        self.live, self.tags = live, tags
        after = set(self.nodes())
        self.created += len(after - before)
        self.freed += len(before - after)

    def add(self, kind, contents):
        self.step(self.live + [(kind, contents)], self.tags)

    def let_go(self, place):
        self.step(self.live[:place] + self.live[place + 1:], self.tags)

    def tag(self, name, place):
        self.step(self.live, {**self.tags, name: self.live[place]})

    def untag(self, name):
        self.step(self.live, {other: part for other, part in self.tags.items() if other != name})
