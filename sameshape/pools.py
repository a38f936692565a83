"""The nodes that a store holds, each of them once."""

from sameshape.errors import QuotaExceeded, StoreFull
from sameshape.nodes import children_of


class Pool:
    """The held nodes with their numbers, which are never given again.

    `uses` has for each number how many places there are at which the node is the child of a held node or the root of
    something that is kept; a node without uses is freed. `quotas` has the quotas that were entered.
    """

    def __init__(self, room):
        self.room = room
        self.numbers = {}
        self.entries = {}
        self.uses = {}
        self.created = 0
        self.freed = 0
        self.quotas = []

    def enter(self, quota):
        """Let a quota hold, besides those that were entered before and not left."""
        self.quotas = [other for other in self.quotas if other.is_running()] + [quota]

    def check_room(self, many):
        """Raise an error if so many nodes cannot be created."""
        for quota in self.quotas:
            if quota.is_running() and quota.used + many > quota.most:
                raise QuotaExceeded()
        if len(self.entries) + many > self.room:
            raise StoreFull()

    def put(self, fresh):
        """Create the nodes of a dict, which has a number for each of their entries."""
        for entry, number in fresh.items():
            self.numbers[entry] = number
            self.entries[number] = entry
            self.uses[number] = 0
            for child in children_of(entry):
                self.uses[child] += 1
        self.created = self.created + len(fresh)

    def keep(self, root):
        """Keep the tree with a root once more; without a root there is nothing to keep."""
        if root is not None:
            self.uses[root] += 1

    def drop(self, root):
        """Keep the tree with a root once less, and free the nodes that have no more uses."""
        stack = [] if root is None else [root]
        while stack:
            number = stack.pop()
            self.uses[number] -= 1
            if self.uses[number] == 0:
                entry = self.entries.pop(number)
                del self.numbers[entry]
                del self.uses[number]
                self.freed += 1
                stack.extend(children_of(entry))
