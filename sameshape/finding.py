"""Recipes that follow the trees of contents."""

from sameshape.nodes import children_of
from sameshape.numbering import size_with
from sameshape.trees import number_tree


def sizes_of(entries):
    """Return the list of the sizes of the nodes with these entries."""
    sizes = []
    for entry in entries:
        sizes.append(size_with(entry, sizes))
    return sizes


def instruction_for(entry, places):
    """Return the instruction for a node whose children have instructions at these places."""
    if entry[0] == "leaf":
        return ("literal", entry[1])
    if entry[0] == "run":
        return ("repeat", places[entry[1]], entry[2])
    return ("concat", tuple([places[child] for child in entry[1]]))


class Draft:
    """A recipe in the making.

    The nodes of the trees of the given contents are told apart by numbers; `roots` has for each of the contents the
    number of the root, or None, and `entries` the entry of each number. `copies` has the copy instructions of the
    nodes of bases, `places` the indices of the instructions that were appended for nodes.
    """

    def __init__(self, many):
        numbers = {}
        self.roots = []
        for contents in many:
            self.roots.append(number_tree(contents, numbers, []))
        self.entries = list(numbers)
        self.sizes = sizes_of(self.entries)
        self.copies = {}
        self.places = {}
        self.recipe = []

    def note_copies(self, number, base, start):
        """Note where the node, which stands at this index of a base, and the nodes below it can be copied.

        A node that was noted before occurs further left or in an earlier base, and so do the nodes below it.
        """
        if number in self.copies:
            return
        self.copies[number] = ("copy", base, start, start + self.sizes[number])
        for child in children_of(self.entries[number]):
            self.note_copies(child, base, start)
            start = start + self.sizes[child]

    def visit(self, number):
        """Append the instructions for a node and the nodes below it."""
        if number in self.places:
            return
        instruction = self.copies.get(number)
        if instruction is None:
            entry = self.entries[number]
            for child in children_of(entry):
                self.visit(child)
            instruction = instruction_for(entry, self.places)
        self.places[number] = len(self.recipe)
        self.recipe.append(instruction)


def find_recipe(contents, *, bases=()):
    """Return the recipe that follows the tree of the contents."""
    draft = Draft(bases + (contents,))
    for base, root in enumerate(draft.roots[:-1]):
        if root is not None:
            draft.note_copies(root, base, 0)
    if contents:
        draft.visit(draft.roots[-1])
    return tuple(draft.recipe)


def find_archive(many):
    """Return the archive of several contents."""
    draft = Draft(many)
    places = []
    for root in draft.roots:
        if root is not None:
            draft.visit(root)
        places.append(draft.places.get(root))
    return tuple(draft.recipe), tuple(places)
