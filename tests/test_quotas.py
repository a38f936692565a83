import unittest

from sameshape.errors import (EmptyInterval, InvalidInstruction, QuotaExceeded, StoreFull, TooManyElements,
                              TooManyVersions, UnknownOperation, UnknownTag, UnknownVersion, VersionReleased,
                              WrongKind)
from sameshape.quotas import Quota, run_within
from sameshape.stores import Store
from tests.support import StoreCase, counts, state_of

SIX = (1, 2, 3, 4, 5, 6)
PAIRS = ((1, 2), (4, 6))
SPLICE = ("splice", 2, 1, (7,))


def content_rows(versions):
    return tuple((version.kind, version.contents) for version in versions)


class QuotaTest(StoreCase):
    def test_what_a_quota_tells(self):
        store = Store()
        store.make("sequence", SIX)
        quota = Quota(store, 5)
        self.assertIs(quota.store, store)
        self.assertEqual((quota.most, quota.used), (5, 0))
        with Quota(store, 7) as held:
            self.assertIs(type(held), Quota)
            self.assertIs(held.store, store)
            self.assertEqual((held.most, held.used), (7, 0))
        with quota as held:
            self.assertIs(held, quota)

    def test_exactly_as_many_nodes_and_one_more(self):
        store = Store()
        first = store.make("sequence", SIX)
        with Quota(store, 3) as quota:
            store.derive(first, SPLICE)
            self.assertEqual(quota.used, 3)
            self.assert_stays([store], QuotaExceeded(), store.make, "sequence", (8,))
        self.assertEqual(quota.used, 3)
        store = Store()
        first = store.make("sequence", SIX)
        with Quota(store, 2) as quota:
            self.assert_stays([store], QuotaExceeded(), store.derive, first, SPLICE)
            self.assertEqual(quota.used, 0)
            store.make("sequence", (8,))
            store.make("sequence", (9,))
            self.assert_stays([store], QuotaExceeded(), store.make, "sequence", (8, 9))
        self.assertEqual(counts(store), (12, 12, 0))

    def test_used_before_while_and_after(self):
        store = Store()
        quota = Quota(store, 100)
        store.make("sequence", SIX)
        self.assertEqual(quota.used, 0)
        with quota:
            self.assertEqual(quota.used, 0)
            store.make("sequence", (1, 2))
            self.assertEqual(quota.used, 0)
            store.make("sequence", (2, 3))
            self.assertEqual(quota.used, 1)
            store.make("sequence", (8, 9))
            self.assertEqual(quota.used, 4)
        self.assertEqual(quota.used, 4)
        store.make("sequence", (10, 11))
        self.assertEqual(quota.used, 4)

    def test_no_limit_after_it_was_left(self):
        store = Store()
        with Quota(store, 0):
            self.assert_stays([store], QuotaExceeded(), store.make, "sequence", (1,))
        store.make("sequence", (1,))
        with Quota(store, 1):
            store.make("sequence", (2,))
        store.make("sequence", (3,))
        self.assertEqual(counts(store), (3, 3, 0))

    def test_no_limit_before_it_is_entered(self):
        store = Store()
        quota = Quota(store, 1)
        store.make("sequence", SIX)
        with quota:
            store.make("sequence", (7,))
            self.assert_stays([store], QuotaExceeded(), store.make, "sequence", (8,))

    def test_a_quota_of_no_nodes(self):
        store = Store()
        first = store.make("sequence", SIX)
        with Quota(store, 0) as quota:
            store.make("sequence", (1, 2))
            store.make("map", ())
            store.derive(first, ("as sequence",))
            store.tag("a", first)
            store.checkout("a")
            store.make_all((("sequence", SIX), ("sequence", (5, 6))))
            self.assert_stays([store], QuotaExceeded(), store.make, "sequence", (7,))
        self.assertEqual((quota.used, counts(store)), (0, (10, 10, 0)))

    def test_each_call(self):
        store, other = Store(), Store()
        first = store.make("sequence", SIX)
        empty, pairs, more = store.make("map", ()), other.make("map", ((1, 2),)), other.make("map", ((3, 4),))
        with Quota(store, 0):
            for function, given in ((store.make, ("sequence", (7,))), (store.make_all, ((("sequence", (7,)),),)),
                                    (store.made_by, ((("literal", 7),),)), (store.derive, (first, ("repeat", 2))),
                                    (store.combine, ("join", pairs, more)), (store.merge, (empty, pairs, more))):
                self.assert_stays([store, other], QuotaExceeded(), function, *given)

    def test_nodes_that_were_freed_meanwhile(self):
        store = Store()
        with Quota(store, 10) as quota:
            first = store.make("sequence", SIX)
            store.let_go(first)
            self.assertEqual(quota.used, 10)
            self.assert_stays([store], QuotaExceeded(), store.make, "sequence", (1,))
        self.assertEqual((quota.used, counts(store)), (10, (0, 10, 10)))

    def test_all_or_none(self):
        store = Store()
        with Quota(store, 11):
            self.assert_stays([store], QuotaExceeded(), store.make_all, (("sequence", SIX), ("sequence", (7, 8))))
            store.make_all((("sequence", SIX), ("sequence", (7,))))

    def test_quotas_within_one_another(self):
        store = Store()
        with Quota(store, 5) as outer:
            store.make("sequence", (1, 2))
            with Quota(store, 1) as inner:
                store.make("sequence", (3,))
                self.assert_stays([store], QuotaExceeded(), store.make, "sequence", (4,))
                self.assertEqual((outer.used, inner.used), (4, 1))
            store.make("sequence", (4,))
            with Quota(store, 100) as second:
                self.assert_stays([store], QuotaExceeded(), store.make, "sequence", (5,))
                store.make("sequence", (1,))
                self.assertEqual((outer.used, inner.used, second.used), (5, 1, 0))
            self.assert_stays([store], QuotaExceeded(), store.make, "sequence", (5,))
        store.make("sequence", (5,))
        self.assertEqual((outer.used, inner.used, second.used), (5, 1, 0))

    def test_three_quotas(self):
        store = Store()
        with Quota(store, 9), Quota(store, 2), Quota(store, 9):
            self.assert_stays([store], QuotaExceeded(), store.make, "sequence", (1, 2))
            store.make("sequence", (1,))

    def test_quotas_of_two_stores(self):
        store, other = Store(), Store()
        with Quota(store, 1) as quota:
            version = other.make("sequence", SIX)
            self.assert_stays([store, other], QuotaExceeded(), store.derive, version, ("slice", 0, 2))
            with Quota(other, 0) as second:
                store.make("sequence", (1,))
                self.assert_stays([store, other], QuotaExceeded(), other.make, "sequence", (7,))
                self.assertEqual((quota.used, second.used), (1, 0))
            other.make("sequence", (7,))
            self.assert_stays([store, other], QuotaExceeded(), store.make, "sequence", (2,))

    def test_a_quota_that_is_left_by_an_error(self):
        store = Store()
        with self.assertRaises(ZeroDivisionError):
            with Quota(store, 1) as first:
                store.make("sequence", (1,))
                raise ZeroDivisionError()
        with self.assertRaises(QuotaExceeded):
            with Quota(store, 1) as second:
                store.make("sequence", (2,))
                store.make("sequence", SIX)
        store.make("sequence", SIX)
        self.assertEqual((first.used, second.used, counts(store)), (1, 1, (10, 10, 0)))

    def test_too_many_versions_come_first_and_the_capacity_last(self):
        store = Store(capacity=1)
        with Quota(store, 0):
            for _ in range(39):
                store.make("sequence", ())
            self.assert_stays([store], QuotaExceeded(), store.make, "sequence", (1, 2))
            store.make("sequence", ())
            self.assert_stays([store], TooManyVersions(), store.make, "sequence", (1, 2))


class RunTest(StoreCase):
    def run_in(self, store, versions, *calls, most=1000000, **named):
        made = run_within(Quota(store, most), tuple(versions), calls, **named)
        self.assertIs(type(made), tuple)
        return made

    def test_the_examples(self):
        store = Store()
        first = store.make("sequence", SIX)
        quota = Quota(store, 3)
        made = run_within(quota, (first,), (("derive", 0, SPLICE), ("derive", 1, ("slice", 0, 2))))
        self.assertEqual((made[0].contents, made[1].contents, quota.used, store.node_count, len(store)),
                         ((1, 2, 7, 4, 5, 6), (1, 2), 3, 13, 3))
        store = Store()
        first = store.make("sequence", SIX)
        self.assert_stays([store], QuotaExceeded(), run_within, Quota(store, 2), (first,), (("derive", 0, SPLICE),))

    def test_each_word(self):
        store = Store()
        store.tag("a", store.make("queue", PAIRS))
        made = self.run_in(store, (), ("make", "intervals", ((3, 5), (1, 3))), ("made_by", (("copy", 0, 0, 1),), (0,)),
                           ("derive", 0, ("shift", 1)), ("combine", "join", 0, 2), ("make", "map", PAIRS),
                           ("make", "map", ()), ("merge", 5, 4, 5), ("checkout", "a"), ("made_by", (), ()))
        self.assertEqual(content_rows(made), (
            ("intervals", ((1, 5),)), ("sequence", ((1, 5),)), ("intervals", ((2, 6),)), ("intervals", ((1, 6),)),
            ("map", PAIRS), ("map", ()), ("map", PAIRS), ("queue", PAIRS), ("sequence", ())))
        self.assertEqual([id(version) for version in store][1:], [id(version) for version in made])

    def test_numbers_of_given_versions_and_of_those_made(self):
        store, other = Store(), Store()
        first, second = store.make("sequence", ("a",)), other.make("sequence", ("b",))
        made = self.run_in(store, (first, second, first), ("combine", "join", 1, 2), ("combine", "join", 3, 0),
                           ("made_by", (("copy", 0, 0, 3), ("copy", 1, 0, 1), ("concat", (0, 1))), (4, 1)))
        self.assertEqual([version.contents for version in made], [("b", "a"), ("b", "a", "a"), ("b", "a", "a", "b")])
        self.assertEqual((len(store), len(other)), (4, 1))

    def test_eight_bases(self):
        store = Store()
        versions = [store.make("sequence", (place,)) for place in range(8)]
        made = self.run_in(store, versions, ("made_by", (("copy", 7, 0, 1),), tuple(range(8))))
        self.assertEqual(made[0].contents, (7,))

    def test_a_merge_with_conflicts(self):
        store = Store()
        base, ours, theirs = [store.make("map", (("a", place),)) for place in range(3)]
        made = self.run_in(store, (base, ours, theirs), ("make", "sequence", ("x",)), ("merge", 0, 1, 2),
                           ("make", "sequence", ("y",)), ("combine", "join", 3, 4))
        self.assertEqual([version.contents for version in made], [("x",), ("y",), ("x", "y")])
        self.assertEqual(self.run_in(store, (base, ours, theirs), ("merge", 0, 1, 2)), ())

    def test_20_calls_and_8_versions(self):
        store = Store()
        versions = [store.make("sequence", (place,)) for place in range(8)]
        made = self.run_in(store, versions, *[("combine", "join", place, place + 1) for place in range(20)])
        contents = [(place,) for place in range(8)]
        for place in range(20):
            contents.append(contents[place] + contents[place + 1])
        self.assertEqual([version.contents for version in made], contents[8:])

    def check_refused(self, store, versions, error, *calls, most=1000000, **named):
        """The last of the calls is refused by this error, and the store is as it was but for two counts."""
        created = self.created_by(store, versions, calls[:-1])
        before = state_of(store)
        many, made, freed = counts(store)
        quota = Quota(store, most)
        self.assert_raises(error, run_within, quota, tuple(versions), calls, **named)
        after = state_of(store)
        self.assertEqual(after[:1] + after[2:], before[:1] + before[2:])
        self.assertEqual(counts(store), (many, made + created, freed + created))
        self.assertEqual(quota.used, created)
        # The quota was left.
        store.let_go(store.make("sequence", ("a new element",)))
        self.assertEqual(quota.used, created)

    def created_by(self, store, versions, calls):
        """How many nodes the calls create, which are carried out and taken back."""
        start = store.created_count
        made = run_within(Quota(store, 1000000), tuple(versions), calls) if calls else ()
        created = store.created_count - start
        for version in made:
            store.let_go(version)
        return created

    def test_each_error(self):
        store = Store()
        first, pairs = store.make("sequence", SIX), store.make("map", PAIRS)
        store.tag("a", first)
        before = (("derive", 0, SPLICE), ("combine", "join", 0, 2), ("checkout", "a"))
        for calls in ((), before[:1], before):
            for call, error in ((("make", "intervals", ((3, 3),)), EmptyInterval()),
                                (("make", "sequence", (1,) * 2001), TooManyElements(2001)),
                                (("made_by", (("literal", 1), ("copy", 0, 0, 7)), (0,)), InvalidInstruction(1)),
                                (("derive", 0, ("pop",)), UnknownOperation()),
                                (("combine", "join", 0, 1), WrongKind()),
                                (("combine", "common", 0, 0), UnknownOperation()),
                                (("merge", 1, 0, 1), WrongKind()),
                                (("checkout", "b"), UnknownTag("b"))):
                self.check_refused(store, (first, pairs), error, *calls, call)

    def test_numbers_that_do_not_exist(self):
        store = Store()
        first = store.make("map", PAIRS)
        gone = store.make("map", PAIRS)
        store.let_go(gone)
        versions = (first, gone)
        for call, place in ((("derive", 2, ("x",)), 2), (("derive", 1000000, ("drop", 1)), 1000000),
                            (("combine", "x", 7, 5), 7), (("combine", "x", 0, 5), 5), (("combine", "x", 1, 5), 5),
                            (("merge", 9, 8, 7), 9), (("merge", 0, 8, 7), 8), (("merge", 1, 0, 7), 7),
                            (("made_by", (("concat", (0,)),), (1, 0, 4, 3)), 4)):
            self.check_refused(store, versions, UnknownVersion(place), call)
        self.check_refused(store, versions, UnknownVersion(3), ("make", "sequence", ("x",)), ("derive", 3, ("x",)))
        self.check_refused(store, (), UnknownVersion(0), ("made_by", (), (0,)))

    def test_an_unknown_number_after_a_merge_with_conflicts(self):
        store = Store()
        versions = [store.make("map", (("a", place),)) for place in range(3)]
        self.check_refused(store, versions, UnknownVersion(3), ("merge", 0, 1, 2), ("derive", 3, ("drop", "a")))

    def test_a_given_version_that_was_let_go(self):
        store = Store()
        first, gone = store.make("map", PAIRS), store.make("map", PAIRS)
        store.let_go(gone)
        made = self.run_in(store, (gone, first), ("derive", 1, ("drop", 1)), ("derive", 2, ("drop", 4)))
        self.assertEqual([version.contents for version in made], [((4, 6),), ()])
        for call in (("derive", 0, ("x",)), ("combine", "join", 1, 0), ("merge", 1, 1, 0),
                     ("made_by", (), (1, 0))):
            self.check_refused(store, (gone, first), VersionReleased(), ("make", "sequence", SIX), call)

    def test_each_call_has_a_quota_of_its_own(self):
        store = Store()
        first = store.make("sequence", SIX)
        made = self.run_in(store, (first,), ("derive", 0, SPLICE), ("make", "sequence", (8, 9)), each=3, most=6)
        self.assertEqual(len(made), 2)
        self.check_refused(store, (first,), QuotaExceeded(), ("make", "sequence", ("x",)),
                           ("make", "sequence", ("y", "z")), each=2)
        self.check_refused(store, (first,), QuotaExceeded(), ("make", "sequence", ("x",)), each=0)
        made = self.run_in(store, (first,), ("derive", 0, ("slice", 0, 2)), ("make", "map", ()), each=0, most=0)
        self.assertEqual(len(made), 2)

    def test_all_calls_together_have_one_quota(self):
        store = Store()
        first = store.make("sequence", SIX)
        calls = (("make", "sequence", ("x",)), ("make", "sequence", ("x",)), ("make", "sequence", ("y", "z")))
        self.check_refused(store, (first,), QuotaExceeded(), *calls, most=3)
        self.check_refused(store, (first,), QuotaExceeded(), calls[0], most=0)
        self.assertEqual(len(self.run_in(store, (first,), *calls, most=4)), 3)

    def test_a_quota_around_it(self):
        store = Store()
        with Quota(store, 3) as outer:
            self.assert_raises(QuotaExceeded(), run_within, Quota(store, 9), (),
                               (("make", "sequence", (1, 2)), ("make", "sequence", (3,))))
            self.assertEqual((outer.used, counts(store)), (3, (0, 3, 3)))
            self.assert_stays([store], QuotaExceeded(), store.make, "sequence", (1,))
        self.assertEqual(len(self.run_in(store, (), ("make", "sequence", (1, 2, 3)))), 1)

    def test_full_stores(self):
        store = Store(capacity=12)
        first = store.make("sequence", SIX)
        self.check_refused(store, (first,), StoreFull(), ("make", "sequence", (7,)), ("make", "sequence", (7, 8)))
        self.check_refused(store, (first,), QuotaExceeded(), ("make", "sequence", (7, 8)), most=2)
        while len(store) < 39:
            store.make("sequence", ())
        self.check_refused(store, (first,), TooManyVersions(), ("make", "sequence", (7,)), ("make", "sequence", (7,)))
        self.assert_stays([store], UnknownVersion(2), run_within, Quota(store, 0), (first, first),
                          (("derive", 2, ("x",)),))

    def test_the_given_versions_stay(self):
        store, other = Store(), Store()
        first, second = store.make("sequence", SIX), other.make("sequence", SIX)
        self.assert_raises(UnknownTag("a"), run_within, Quota(store, 99), (first, second),
                           (("derive", 1, SPLICE), ("checkout", "a")))
        self.assert_part(first, "sequence", SIX)
        self.assert_part(second, "sequence", SIX)
        self.assertEqual((counts(store), counts(other)), ((10, 13, 3), (10, 10, 0)))


if __name__ == "__main__":
    unittest.main()
