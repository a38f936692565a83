"""Quotas, which limit the number of nodes that a store creates."""

from sameshape.errors import ShapeError, UnknownVersion


class Quota:
    """A limit that holds while a `with` statement runs.

    `_first` and `_last` are the numbers of nodes that the store had created when the statement was entered and left.
    """

    def __init__(self, store, most):
        self._store = store
        self._most = most
        self._pool = store._pool
        self._first = None
        self._last = None

    def __enter__(self):
        self._first = self._pool.created
        self._pool.enter(self)
        return self

    def __exit__(self, kind, value, trace):
        self._last = self._pool.created

    @property
    def store(self):
        """The store."""
        return self._store

    @property
    def most(self):
        """The greatest number of nodes that may be created."""
        return self._most

    @property
    def used(self):
        """The number of nodes that were created while the statement ran."""
        if self._first is None:
            return 0
        last = self._pool.created if self._last is None else self._last
        return last - self._first

    def is_running(self):
        """Return True if the statement was entered and not left, otherwise False."""
        return self._first is not None and self._last is None


def versions_at(known, numbers):
    """Return the tuple of the versions with some numbers."""
    for number in numbers:
        if number >= len(known):
            raise UnknownVersion(number)
    return tuple([known[number] for number in numbers])


def versions_of_call(call):
    """Return the tuple of the numbers of versions among the arguments of a call."""
    match call:
        case ("made_by", _, bases):
            return bases
        case ("derive", number, _):
            return (number,)
        case ("combine", _, number, other):
            return (number, other)
        case ("merge", base, ours, theirs):
            return (base, ours, theirs)
    return ()


def made_by_call(store, call, known):
    """Carry out a call and return the tuple of the versions that it makes: one, or none if there are conflicts."""
    versions = versions_at(known, versions_of_call(call))
    word = call[0]
    if word == "make":
        version = store.make(call[1], call[2])
    elif word == "made_by":
        version = store.made_by(call[1], bases=versions)
    elif word == "derive":
        version = store.derive(versions[0], call[2])
    elif word == "combine":
        version = store.combine(call[1], versions[0], versions[1])
    elif word == "merge":
        version, _ = store.merge(versions[0], versions[1], versions[2])
    else:
        version = store.checkout(call[1])
    return () if version is None else (version,)


def run_within(quota, versions, calls, *, each=1000000):
    """Run the calls within a quota, each of them within a further quota, and return the tuple of the new versions."""
    store = quota.store
    known = list(versions)
    with quota:
        try:
            for call in calls:
                with Quota(store, each):
                    made = made_by_call(store, call, known)
                known.extend(made)
        except ShapeError:
            for version in known[len(versions):]:
                store.let_go(version)
            raise
    return tuple(known[len(versions):])
