import unittest

from sameshape.errors import (DifferentStores, IndexOutOfRange, InvalidContents, InvalidInstruction, QuotaExceeded,
                              StoreFull, TooManyElements, TooManyTags, TooManyVersions, UnknownOperation, UnknownTag,
                              VersionReleased, WrongKind)
from sameshape.nodes import height_of
from sameshape.quotas import Quota
from sameshape.stores import Store
from sameshape.trees import tree_of
from tests import stores_model
from tests.samples import LARGE, SMALL
from tests.support import StoreCase, counts, state_of

SIX = (1, 2, 3, 4, 5, 6)
PAIRS = ((1, 2), (4, 6))


class VersionTest(StoreCase):
    def test_what_a_version_tells(self):
        version = Store().make("intervals", PAIRS)
        self.assert_part(version, "intervals", PAIRS)
        self.assertEqual((len(version), tuple(version)), (2, PAIRS))
        self.assertIs(version.is_live, True)

    def test_after_letting_go(self):
        store = Store()
        version = store.make("queue", PAIRS)
        other = store.make("queue", PAIRS)
        store.let_go(version)
        self.assertEqual(version.kind, "queue")
        self.assertIs(version.is_live, False)
        self.assert_part(other, "queue", PAIRS)
        store.let_go(other)
        self.assertEqual((other.kind, other.is_live, version.is_live), ("queue", False, False))

    def test_places(self):
        version = Store().make("sequence", ("a", ("b", 1), -3))
        self.assertEqual([version[place] for place in range(3)], ["a", ("b", 1), -3])
        for place in (3, 4, 1000000):
            self.assert_raises(IndexOutOfRange(place), lambda: version[place])
        empty = Store().make("map", ())
        self.assert_raises(IndexOutOfRange(0), lambda: empty[0])
        large = Store().make("sequence", tuple(range(2000)))
        self.assertEqual((large[0], large[1999]), (0, 1999))
        self.assert_raises(IndexOutOfRange(2000), lambda: large[2000])

    def test_nodes_and_height(self):
        store = Store()
        for contents, many, height in (((), 0, 0), ((5,), 1, 0), ((7, 7, 7), 2, 0), ((7,) * 2000, 2, 0),
                                       ((1, 2), 3, 1), ((1, 2, 2), 4, 1), (SIX, 10, 2),
                                       (("x", "y", "y", "y") * 2, 5, 1)):
            version = store.make("sequence", contents)
            self.assertEqual((version.node_count, version.height), (many, height))

    def test_nodes_and_height_of_any_contents(self):
        for contents in list(SMALL.values()) + list(LARGE.values()):
            version = Store().make("sequence", contents)
            self.assertEqual(version.height, height_of(tree_of(contents)) if contents else 0)
            if len(contents) < 100:
                self.assertEqual(version.node_count, len(stores_model.nodes_of(contents)))

    def test_nodes_that_other_versions_have_too(self):
        store = Store()
        store.make("sequence", (1, 2))
        version = store.make("sequence", SIX)
        self.assertEqual((version.node_count, version.height), (10, 2))

    def test_iterating(self):
        store = Store()
        version = store.make("sequence", SIX)
        self.assertEqual([element for element in version], list(SIX))
        self.assertEqual([(one, other) for one in version for other in version][7], (2, 2))

    def test_same_as(self):
        store, other = Store(), Store()
        version = store.make("map", PAIRS)
        self.assertIs(version.same_as(version), True)
        self.assertIs(version.same_as(store.make("map", PAIRS[::-1])), True)
        self.assertIs(version.same_as(other.make("map", PAIRS)), True)
        for kind in ("sequence", "queue", "intervals"):
            self.assertIs(version.same_as(store.make(kind, PAIRS)), False)
        self.assertIs(version.same_as(store.make("map", PAIRS[:1])), False)
        self.assertIs(version.same_as(store.make("map", ((1, 2), (4, "6")))), False)
        empty = store.make("sequence", ())
        self.assertIs(empty.same_as(other.make("sequence", ())), True)
        self.assertIs(empty.same_as(other.make("map", ())), False)

    def test_shared_with(self):
        store, other = Store(), Store()
        first = store.make("sequence", SIX)
        for place in (store, other):
            second = place.make("sequence", (1, 2, 7, 4, 5, 6))
            self.assertEqual((first.shared_with(second), second.shared_with(first)), (7, 7))
            same = place.make("sequence", SIX)
            self.assertEqual((first.shared_with(same), same.shared_with(first)), (10, 10))
            part = place.make("sequence", (5, 6))
            self.assertEqual((first.shared_with(part), part.shared_with(first)), (3, 3))
            apart = place.make("sequence", ("1", (1, 2)))
            self.assertEqual((first.shared_with(apart), apart.shared_with(first)), (0, 0))
            empty = place.make("map", ())
            self.assertEqual((first.shared_with(empty), empty.shared_with(first)), (0, 0))
        self.assertEqual(store.make("sequence", (1, 1)).shared_with(other.make("sequence", (1, 1, 1))), 1)

    def test_shared_nodes_of_any_contents(self):
        store, other = Store(), Store()
        for place, first in enumerate(SMALL.values()):
            for second in list(SMALL.values())[place % 5::5]:
                versions = store.make("sequence", first), other.make("sequence", second)
                shared = set(stores_model.nodes_of(first)) & set(stores_model.nodes_of(second))
                before = (state_of(store), state_of(other))
                self.assertEqual(versions[0].shared_with(versions[1]), len(shared))
                self.assertEqual((state_of(store), state_of(other)), before)
                store.let_go(versions[0])
                other.let_go(versions[1])


def released(store, kind, contents):
    """A version of a store that was let go."""
    version = store.make(kind, contents)
    store.let_go(version)
    return version


class ReleasedTest(StoreCase):
    """VersionReleased, wherever a version is passed or used."""

    def setUp(self):
        self.store, self.other = Store(), Store()
        self.live = self.store.make("map", PAIRS)
        self.gone = released(self.store, "map", PAIRS)
        self.far = released(self.other, "map", PAIRS)

    def check(self, function, *given, **named):
        self.assert_stays([self.store, self.other], VersionReleased(), function, *given, **named)

    def test_the_version_itself(self):
        for version in (self.gone, self.far, released(self.store, "sequence", ())):
            for name in ("contents", "node_count", "height"):
                self.check(getattr, version, name)
            self.check(len, version)
            self.check(lambda: version[0])
            self.check(lambda: version[7])
            self.check(version.same_as, self.live)
            self.check(version.shared_with, self.live)
            self.check(version.same_as, version)
            self.check(version.shared_with, version)

    def test_comparing_with_it(self):
        for version in (self.gone, self.far):
            self.check(self.live.same_as, version)
            self.check(self.live.shared_with, version)

    def test_deriving(self):
        for version in (self.gone, self.far):
            self.check(self.store.derive, version, ("drop", 1))
            self.check(self.store.combine, "join", version, self.live)
            self.check(self.store.combine, "join", self.live, version)
            self.check(self.store.combine, "join", version, version)
            self.check(self.store.merge, version, self.live, self.live)
            self.check(self.store.merge, self.live, version, self.live)
            self.check(self.store.merge, self.live, self.live, version)
            self.check(self.store.made_by, (), bases=(version,))
            self.check(self.store.made_by, (("literal", 1),), bases=(self.live, self.live, version))

    def test_letting_go_and_tagging(self):
        for version in (self.gone, self.far):
            self.check(self.store.let_go, version)
            self.check(self.store.tag, "a", version)

    def test_a_tag_does_not_keep_a_version(self):
        self.store.tag("a", self.live)
        self.store.let_go(self.live)
        self.check(self.store.let_go, self.live)
        self.check(self.store.derive, self.live, ("drop", 1))
        self.assert_part(self.store.checkout("a"), "map", PAIRS)
        self.assertIs(self.live.is_live, False)


class OtherStoreTest(StoreCase):
    def test_letting_go_and_tagging(self):
        store, other = Store(), Store()
        version = other.make("sequence", SIX)
        store.make("sequence", SIX)
        self.assert_stays([store, other], DifferentStores(), store.let_go, version)
        self.assert_stays([store, other], DifferentStores(), store.tag, "a", version)
        self.assert_part(version, "sequence", SIX)
        other.tag("a", version)
        other.let_go(version)
        self.assertEqual(counts(other), (10, 10, 0))


class WrongKindTest(StoreCase):
    def test_combining(self):
        store = Store()
        versions = [store.make(kind, PAIRS) for kind in ("sequence", "map", "queue", "intervals")]
        for first in versions:
            for second in versions:
                if first.kind != second.kind:
                    for word in ("join", "common", "others", "x"):
                        self.assert_stays([store], WrongKind(), store.combine, word, first, second)

    def test_merging(self):
        store = Store()
        good = store.make("map", PAIRS)
        for kind in ("sequence", "queue", "intervals"):
            bad = store.make(kind, PAIRS)
            self.assert_stays([store], WrongKind(), store.merge, bad, good, good)
            self.assert_stays([store], WrongKind(), store.merge, good, bad, good)
            self.assert_stays([store], WrongKind(), store.merge, good, good, bad)
            self.assert_stays([store], WrongKind(), store.merge, bad, bad, bad)


class OrderTest(StoreCase):
    """Of two errors that could be raised the one that the document lists first is raised."""

    def setUp(self):
        self.store, self.other = Store(), Store()
        self.gone = released(self.store, "map", PAIRS)
        self.far = self.other.make("map", PAIRS)
        self.far_gone = released(self.other, "map", PAIRS)
        self.map = self.store.make("map", PAIRS)
        self.set = self.store.make("intervals", PAIRS)

    def check(self, error, function, *given, **named):
        self.assert_stays([self.store, self.other], error, function, *given, **named)

    def fill_versions(self):
        while len(self.store) < 40:
            self.store.make("sequence", (1,))

    def test_released_comes_first(self):
        check, store = self.check, self.store
        check(VersionReleased(), store.let_go, self.far_gone)
        check(VersionReleased(), store.tag, "a", self.far_gone)
        check(VersionReleased(), store.combine, "join", self.gone, self.set)
        check(VersionReleased(), store.combine, "x", self.set, self.gone)
        check(VersionReleased(), store.merge, self.set, self.map, self.gone)
        check(VersionReleased(), store.derive, self.gone, ("x",))
        check(VersionReleased(), store.combine, "x", self.gone, self.gone)
        check(VersionReleased(), store.made_by, (("concat", (0,)),), bases=(self.gone,))
        check(VersionReleased(), lambda: self.gone[9])
        for place in range(20):
            store.tag(str(place), self.map)
        check(VersionReleased(), store.tag, "a", self.gone)
        self.fill_versions()
        check(VersionReleased(), store.derive, self.gone, ("drop", 1))
        check(VersionReleased(), store.combine, "join", self.gone, self.map)
        check(VersionReleased(), store.merge, self.map, self.gone, self.map)

    def test_released_comes_before_the_quota_and_the_capacity(self):
        with Quota(self.store, 0):
            self.check(VersionReleased(), self.store.derive, self.gone, ("put", 9, 9))
        small = Store(capacity=1)
        self.assert_stays([small], VersionReleased(), small.derive, self.gone, ("put", 9, 9))

    def test_another_store_comes_before_too_many_tags(self):
        for place in range(20):
            self.store.tag(str(place), self.map)
        self.check(DifferentStores(), self.store.tag, "a", self.far)
        self.check(DifferentStores(), self.store.tag, "3", self.far)

    def test_the_wrong_kind_comes_before_the_errors_of_the_call(self):
        large = self.store.make("map", tuple((place, 0) for place in range(2000)))
        self.check(WrongKind(), self.store.combine, "x", self.map, self.set)
        self.check(WrongKind(), self.store.merge, self.store.make("map", ()), large, self.set)
        self.fill_versions()
        self.check(WrongKind(), self.store.combine, "join", self.map, self.set)
        self.check(WrongKind(), self.store.merge, self.map, self.set, self.map)

    def test_the_errors_of_the_call_come_before_too_many_versions(self):
        self.fill_versions()
        check, store = self.check, self.store
        check(TooManyElements(2001), store.make, "sequence", (1,) * 2001)
        check(InvalidContents(0), store.make_all, (("map", (1,)),))
        check(InvalidInstruction(0), store.made_by, (("concat", (0,)),))
        check(UnknownOperation(), store.derive, self.map, ("pop",))
        check(UnknownOperation(), store.combine, "x", self.map, self.map)
        check(UnknownTag("a"), store.checkout, "a")
        large = Store().make("map", tuple((place, 0) for place in range(100, 2100)))
        empty = Store().make("map", ())
        check(TooManyElements(2002), store.combine, "join", self.map, large)
        check(TooManyElements(2002), store.merge, empty, self.map, large)
        check(TooManyElements(2001), store.derive, large, ("put", 1, 1))

    def test_the_errors_of_the_call_come_before_the_quota_and_the_capacity(self):
        with Quota(self.store, 0):
            self.check(TooManyElements(2001), self.store.make, "sequence", tuple(range(2001)))
            self.check(UnknownOperation(), self.store.derive, self.map, ("pop",))
        small = Store(capacity=1)
        self.assert_stays([small], TooManyElements(2001), small.make, "sequence", tuple(range(2001)))
        self.assert_stays([small], InvalidContents(1), small.make_all, (("sequence", SIX), ("map", (1,))))

    def test_too_many_versions_come_before_the_quota_and_the_capacity(self):
        small = Store(capacity=1)
        for _ in range(40):
            small.make("sequence", (1,))
        self.assert_stays([small], TooManyVersions(), small.make, "sequence", (2,))
        with Quota(small, 0):
            self.assert_stays([small], TooManyVersions(), small.make, "sequence", (2,))

    def test_the_quota_comes_before_the_capacity(self):
        small = Store(capacity=1)
        with Quota(small, 0):
            self.assert_stays([small], QuotaExceeded(), small.make, "sequence", (1, 2))
        with Quota(small, 3):
            self.assert_stays([small], StoreFull(), small.make, "sequence", (1, 2))
        self.assert_stays([small], StoreFull(), small.make, "sequence", (1, 2))

    def test_contents_that_are_not_valid_come_before_too_many_elements(self):
        large = ("sequence", tuple(range(2000)))
        self.check(InvalidContents(2), self.store.make_all, (large, ("queue", ()), ("queue", (("a", 1),))))

    def test_a_name_that_the_store_has_with_20_tags(self):
        for place in range(20):
            self.store.tag(str(place), self.map)
        self.check(TooManyTags(), self.store.tag, "a", self.set)
        self.store.tag("19", self.set)
        self.assert_part(self.store.checkout("19"), "intervals", PAIRS)


if __name__ == "__main__":
    unittest.main()
