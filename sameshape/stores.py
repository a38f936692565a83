"""Stores, which keep versions of collections and every distinct node of their trees once."""

from sameshape.errors import (DifferentStores, IndexOutOfRange, TooManyTags, TooManyVersions, UnknownTag,
                              VersionReleased, WrongKind)
from sameshape.kinds import check_parts, contents_of
from sameshape.limits import check_count
from sameshape.merges import conflicts_of, merged
from sameshape.numbering import height_below, number_table, table_below, tabled
from sameshape.operations import combined, derived
from sameshape.pools import Pool
from sameshape.recipes import run_recipe
from sameshape.trees import table_of

MOST_VERSIONS = 40
MOST_TAGS = 20


def check_live(versions):
    """Raise VersionReleased if one of some versions was let go."""
    for version in versions:
        if not version.is_live:
            raise VersionReleased()


def derived_part(version, operation):
    """Return the pair of the kind and the contents of the collection that an operation derives from a version."""
    return derived(version.kind, version.contents, operation)


def combined_part(word, version, other):
    """Return the pair of the kind and the contents of the combination of two versions."""
    check_live((version, other))
    if version.kind != other.kind:
        raise WrongKind()
    return version.kind, combined(word, version.kind, version.contents, other.contents)


class Version:
    """A collection that a store keeps."""

    def __init__(self, pool, kind, contents, root):
        self._pool = pool
        self._kind = kind
        self._contents = contents
        self._root = root
        self._live = True

    def __len__(self):
        check_live((self,))
        return len(self._contents)

    def __iter__(self):
        return iter(self._contents)

    def __getitem__(self, at):
        check_live((self,))
        if at >= len(self._contents):
            raise IndexOutOfRange(at)
        return self._contents[at]

    @property
    def kind(self):
        """The kind."""
        return self._kind

    @property
    def is_live(self):
        """True until the version is let go."""
        return self._live

    @property
    def contents(self):
        """The tuple of the elements."""
        check_live((self,))
        return self._contents

    @property
    def node_count(self):
        """The number of the distinct nodes of the tree."""
        return len(self.table())

    @property
    def height(self):
        """The height of the root of the tree."""
        check_live((self,))
        return height_below(self._pool.entries, self._root)

    def table(self):
        """Return the node table."""
        check_live((self,))
        return table_below(self._pool.entries, (self._root,))

    def same_as(self, other):
        """Return True if both versions have the same kind and equal contents, otherwise False."""
        check_live((self, other))
        return self._kind == other.kind and self._contents == other.contents

    def shared_with(self, other):
        """Return the number of the distinct nodes that occur in the trees of both versions."""
        numbers = {entry: place for place, entry in enumerate(self.table())}
        fresh = {}
        table = other.table()
        number_table(table, numbers, fresh, len(numbers))
        return len(table) - len(fresh)


class Store:
    """Versions and tags. A tag is a row (kind, contents, number of the root)."""

    def __init__(self, *, capacity=1000000):
        self._pool = Pool(capacity)
        self._versions = []
        self._tags = {}

    def __len__(self):
        return len(self._versions)

    def __iter__(self):
        return iter(self._versions)

    @property
    def capacity(self):
        """The greatest number of nodes that may be held."""
        return self._pool.room

    @property
    def node_count(self):
        """The number of the held nodes."""
        return len(self._pool.entries)

    @property
    def created_count(self):
        """The number of nodes that were created."""
        return self._pool.created

    @property
    def freed_count(self):
        """The number of nodes that were freed."""
        return self._pool.freed

    @property
    def tag_names(self):
        """The tuple of the names of the tags."""
        return tuple(self._tags)

    @property
    def held(self):
        """The tuple of the entries of all held nodes."""
        roots = [version._root for version in self._versions] + [row[2] for row in self._tags.values()]
        return table_below(self._pool.entries, roots)

    def cost_of(self, contents):
        """Return the number of the distinct nodes of the tree of the contents that are not held."""
        fresh = {}
        number_table(table_of(contents), self._pool.numbers, fresh, self._pool.created)
        return len(fresh)

    def make(self, kind, rows):
        """Create and return the version of a kind that is made of some elements."""
        return self._create((kind, contents_of(kind, rows)))

    def make_all(self, parts):
        """Create a version for each pair of a kind and contents and return the tuple of these versions."""
        check_parts(parts)
        for _, contents in parts:
            check_count(len(contents))
        return self.carry_out(self.plan(tabled(parts)))

    def made_by(self, recipe, *, bases=()):
        """Create and return the sequence that is the value of a recipe, whose bases are versions."""
        contents = tuple([version.contents for version in bases])
        return self._create(("sequence", run_recipe(recipe, bases=contents)))

    def derive(self, version, operation):
        """Create and return the version that an operation derives from a version."""
        return self._create(derived_part(version, operation))

    def combine(self, word, version, other):
        """Create and return the combination of two versions."""
        return self._create(combined_part(word, version, other))

    def merge(self, base, ours, theirs):
        """Return the pair of the merged map, which is created, and the empty tuple, or of None and the conflicts."""
        versions = (base, ours, theirs)
        check_live(versions)
        if any([version.kind != "map" for version in versions]):
            raise WrongKind()
        maps = [version.contents for version in versions]
        conflicts = conflicts_of(*maps)
        if conflicts:
            return None, conflicts
        return self._create(("map", merged(*maps))), ()

    def let_go(self, version):
        """Let go of a version."""
        self._check_own(version)
        self._versions.remove(version)
        self._pool.drop(version._root)
        version._live = False
        # Nobody may read the elements any more, so they need not be kept in memory.
        version._contents = ()

    def tag(self, name, version):
        """Give a name to the kind and the contents of a version."""
        self._check_own(version)
        if name not in self._tags and len(self._tags) >= MOST_TAGS:
            raise TooManyTags()
        old = self._tags.get(name)
        # The new tag comes first, so nodes that both have are never freed.
        self._pool.keep(version._root)
        self._tags[name] = (version.kind, version.contents, version._root)
        if old is not None:
            self._pool.drop(old[2])

    def untag(self, name):
        """Remove the tag of a name and return True; return False if there is none."""
        if name not in self._tags:
            return False
        row = self._tags.pop(name)
        self._pool.drop(row[2])
        return True

    def checkout(self, name):
        """Create and return a version with the kind and the contents of a tag."""
        return self._create(self.tagged_part(name))

    def tagged_part(self, name):
        """Return the pair of the kind and the contents of a tag."""
        if name not in self._tags:
            raise UnknownTag(name)
        kind, contents, _ = self._tags[name]
        return kind, contents

    def plan(self, rows):
        """Return what carry_out needs to create a version for each row (kind, contents, node table).

        Raise an error if the versions cannot be created; nothing is changed.
        """
        if len(self._versions) + len(rows) > MOST_VERSIONS:
            raise TooManyVersions()
        fresh = {}
        planned = []
        for kind, contents, table in rows:
            root = number_table(table, self._pool.numbers, fresh, self._pool.created)
            planned.append((kind, contents, root))
        self._pool.check_room(len(fresh))
        return planned, fresh

    def carry_out(self, plan):
        """Create the versions of a plan, since whose making nothing was changed, and return the tuple of them."""
        planned, fresh = plan
        self._pool.put(fresh)
        made = []
        for kind, contents, root in planned:
            self._pool.keep(root)
            made.append(Version(self._pool, kind, contents, root))
        self._versions.extend(made)
        return tuple(made)

    def _create(self, part):
        """Create and return the version with a kind and contents."""
        return self.carry_out(self.plan(tabled((part,))))[0]

    def _check_own(self, version):
        """Raise an error if a version was let go or does not belong to the store."""
        check_live((version,))
        if version._pool != self._pool:
            raise DifferentStores()
