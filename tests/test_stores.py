import random
import unittest

from sameshape.errors import (EmptyInterval, IndexOutOfRange, InvalidContents, InvalidInstruction, RecipeTooLarge,
                              StoreFull, TooManyElements, TooManyTags, TooManyVersions, UnknownTag)
from sameshape.recipes import recipe_weight
from sameshape.stores import Store, Version
from tests import collections_model, stores_model
from tests.samples import LARGE, MIXED, SMALL, picked, scattered
from tests.stores_model import StoreModel
from tests.support import StoreCase, counts, state_of

SIX = (1, 2, 3, 4, 5, 6)
KINDS = ("sequence", "map", "queue", "intervals")
WHOLE = tuple(range(2000))
PAIRS = tuple((2 * place, 2 * place + 1) for place in range(2000))


def full_store(many):
    """A store with so many live versions, each with another element, and the list of them."""
    store = Store()
    return store, [store.make("sequence", (place,)) for place in range(many)]


class ExamplesTest(StoreCase):
    def test_the_first_example(self):
        store = Store()
        first = store.make("sequence", SIX)
        self.assertEqual(counts(store), (10, 10, 0))
        second = store.derive(first, ("splice", 2, 1, (7,)))
        self.assertEqual(counts(store), (13, 13, 0))
        third = store.make("sequence", (1, 2, 7, 4, 5, 6))
        self.assertEqual(counts(store), (13, 13, 0))
        self.assertIsNone(store.let_go(first))
        self.assertEqual(counts(store), (10, 13, 3))
        self.assert_part(second, "sequence", (1, 2, 7, 4, 5, 6))
        self.assert_part(third, "sequence", (1, 2, 7, 4, 5, 6))

    def test_the_second_example(self):
        store = Store(capacity=100)
        first = store.make("sequence", ("to", "be", "or"))
        self.assertIsNone(store.tag("start", first))
        second = store.make("sequence", ("not",))
        third = store.combine("join", first, second)
        self.assertEqual((store.node_count, store.created_count, len(store), store.tag_names), (8, 8, 3, ("start",)))
        store.let_go(first)
        self.assertEqual((store.node_count, store.freed_count, len(store)), (8, 0, 2))
        self.assertIs(store.untag("start"), True)
        self.assertEqual((store.node_count, store.freed_count), (7, 1))
        self.assert_rows(store.held)
        self.assertEqual(store.held, (("leaf", "not"), ("leaf", "to"), ("leaf", "be"), ("block", (1, 2)),
                                      ("leaf", "or"), ("block", (4, 0)), ("block", (3, 5))))
        self.assert_part(third, "sequence", ("to", "be", "or", "not"))


class EmptyStoreTest(StoreCase):
    def test_a_new_store(self):
        store = Store()
        self.assertEqual(state_of(store), (1000000, (0, 0, 0), (), (), 0, ()))
        self.assertEqual(Store(capacity=7).capacity, 7)

    def test_contents_without_elements(self):
        store = Store(capacity=1)
        versions = [store.make(kind, ()) for kind in KINDS]
        self.assertEqual(counts(store), (0, 0, 0))
        for kind, version in zip(KINDS, versions):
            self.assert_part(version, kind, ())
            self.assertEqual((version.node_count, version.height, len(version), tuple(version)), (0, 0, 0, ()))
            self.assertEqual(version.shared_with(version), 0)
        self.assertEqual((store.held, store.cost_of(())), ((), 0))
        store.tag("none", versions[2])
        self.assertEqual((store.tag_names, counts(store)), (("none",), (0, 0, 0)))
        self.assert_part(store.checkout("none"), "queue", ())
        store.tag("none", versions[0])
        self.assert_part(store.checkout("none"), "sequence", ())
        store.make("sequence", (1,))
        store.let_go(versions[0])
        self.assertIs(store.untag("none"), True)
        self.assertEqual(counts(store), (1, 1, 0))


class MakingTest(StoreCase):
    def test_each_kind(self):
        store = Store()
        for kind, rows, contents in (("sequence", (3, 1, 3), (3, 1, 3)), ("map", ((2, 1), (1, 5), (2, 7)), ((1, 5), (2, 7))),
                                     ("queue", ((2, 1), (1, 5), (2, 0)), ((1, 5), (2, 1), (2, 0))),
                                     ("intervals", ((3, 5), (1, 3), (8, 9)), ((1, 5), (8, 9)))):
            version = store.make(kind, rows)
            self.assertIs(type(version), Version)
            self.assert_part(version, kind, contents)

    def test_each_call_creates_another_version(self):
        store = Store()
        first = store.make("sequence", (1, 2))
        second = store.make("sequence", (1, 2))
        third = store.make("map", ())
        self.assertIsNot(first, second)
        self.assertEqual([id(version) for version in store], [id(first), id(second), id(third)])
        store.let_go(second)
        self.assertEqual([id(version) for version in store], [id(first), id(third)])
        self.assertTrue(first.is_live)

    def test_equal_contents_that_are_let_go_of_one_by_one(self):
        store = Store()
        versions = [store.make("sequence", SIX) for _ in range(3)]
        self.assertEqual(counts(store), (10, 10, 0))
        store.let_go(versions[1])
        self.assertEqual(counts(store), (10, 10, 0))
        store.let_go(versions[0])
        self.assertEqual(counts(store), (10, 10, 0))
        store.let_go(versions[2])
        self.assertEqual(counts(store), (0, 10, 10))
        store.make("sequence", SIX)
        self.assertEqual(counts(store), (10, 20, 10))

    def test_equal_contents_of_different_kinds(self):
        store = Store()
        contents = ((1, 2), (4, 5), (7, 9))
        versions = [store.make(kind, contents) for kind in KINDS]
        many = store.created_count
        self.assertEqual(counts(store), (versions[0].node_count, many, 0))
        for version in versions[:3]:
            store.let_go(version)
        self.assertEqual(counts(store), (many, many, 0))

    def test_errors(self):
        store = Store()
        self.assert_stays([store], EmptyInterval(), store.make, "intervals", ((1, 2), (3, 3)))
        for kind in KINDS:
            self.assert_stays([store], TooManyElements(2001), store.make, kind, PAIRS + ((9000, 9001),))
            self.assertEqual(len(store.make(kind, PAIRS)), 2000)


class MakeAllTest(StoreCase):
    def test_several_parts(self):
        store = Store()
        parts = (("sequence", SIX), ("map", ((1, 2), (3, 4))), ("sequence", ()), ("queue", ((1, "b"), (1, "a"))),
                 ("intervals", ((1, 2), (3, 4))), ("sequence", (1, 2)), ("sequence", SIX), ("map", ()))
        versions = store.make_all(parts)
        self.assertIs(type(versions), tuple)
        self.assertEqual([id(version) for version in versions], [id(version) for version in store])
        for version, (kind, contents) in zip(versions, parts):
            self.assert_part(version, kind, contents)
        expected = StoreModel()
        for kind, contents in parts:
            expected.add(kind, contents)
        self.assertEqual(counts(store), expected.counts())

    def test_no_parts(self):
        store, _ = full_store(40)
        before = state_of(store)
        self.assertEqual(store.make_all(()), ())
        self.assertEqual(state_of(store), before)

    def test_parts_that_are_not_valid(self):
        store = Store()
        bad = (("map", ((2, 1), (1, 1))), ("queue", (("a", 1),)), ("intervals", ((1, 2), (2, 3))), ("map", (5,)))
        for part in bad:
            self.assert_stays([store], InvalidContents(0), store.make_all, (part,))
            self.assert_stays([store], InvalidContents(1), store.make_all, (("sequence", SIX), part, part))
            self.assert_stays([store], InvalidContents(7), store.make_all, (("sequence", SIX),) * 7 + (part,))

    def test_all_or_none(self):
        store, versions = full_store(38)
        for many in (3, 8):
            self.assert_stays([store], TooManyVersions(), store.make_all, (("sequence", ()),) * many)
        self.assertEqual(len(store.make_all((("sequence", (0,)), ("sequence", ())))), 2)
        self.assert_stays([store], TooManyVersions(), store.make_all, (("sequence", ()),))
        store = Store(capacity=12)
        self.assert_stays([store], StoreFull(), store.make_all, (("sequence", SIX), ("sequence", (7, 8))))
        # The leaves that both have count once.
        self.assertEqual(len(store.make_all((("sequence", SIX), ("sequence", (6, 7))))), 2)
        self.assertEqual(counts(store), (12, 12, 0))


class MadeByTest(StoreCase):
    recipe = (("literal", "x"), ("copy", 0, 1, 3), ("concat", (0, 1, 0)), ("repeat", 2, 2))

    def test_a_recipe_with_bases(self):
        store, other = Store(), Store()
        base = store.make("sequence", (1, 2, 3))
        version = store.made_by(self.recipe, bases=(base,))
        self.assert_part(version, "sequence", ("x", 2, 3, "x", "x", 2, 3, "x"))
        expected = StoreModel()
        expected.add("sequence", (1, 2, 3))
        expected.add("sequence", ("x", 2, 3, "x", "x", 2, 3, "x"))
        self.assertEqual(counts(store), expected.counts())
        pairs = other.make("map", ((1, 2), (3, 4)))
        found = store.made_by((("copy", 1, 0, 2), ("copy", 2, 0, 1), ("concat", (0, 1))), bases=(pairs, base, pairs))
        self.assert_part(found, "sequence", (1, 2, (1, 2)))
        self.assertEqual([id(version) for version in store][-1], id(found))
        self.assertEqual(len(other), 1)

    def test_no_bases(self):
        store = Store()
        self.assert_part(store.made_by(()), "sequence", ())
        self.assert_part(store.made_by((("literal", 5), ("repeat", 0, 2000))), "sequence", (5,) * 2000)
        self.assertEqual(counts(store), (2, 2, 0))

    def test_errors(self):
        store = Store()
        base = store.make("sequence", SIX)
        self.assert_stays([store], InvalidInstruction(1), store.made_by, (("literal", 1), ("concat", (0, 1))))
        self.assert_stays([store], InvalidInstruction(0), store.made_by, (("copy", 1, 0, 0),), bases=(base,))
        self.assert_stays([store], InvalidInstruction(0), store.made_by, (("copy", 0, 0, 7),), bases=(base,))
        self.assert_stays([store], TooManyElements(2001), store.made_by,
                          (("literal", 1), ("repeat", 0, 2000), ("concat", (0, 1))))
        large = (("literal", 1), ("repeat", 0, 2000)) + (("concat", (1,)),) * 100
        self.assert_stays([store], RecipeTooLarge(100), store.made_by, large)


class DerivingTest(StoreCase):
    def test_the_kinds(self):
        store = Store()
        pairs = ((1, 2), (4, 6))
        versions = {kind: store.make(kind, pairs) for kind in KINDS}
        self.assert_part(store.derive(versions["sequence"], ("repeat", 2)), "sequence", pairs * 2)
        self.assert_part(store.derive(versions["map"], ("put", 0, "a")), "map", ((0, "a"),) + pairs)
        self.assert_part(store.derive(versions["queue"], ("pop",)), "queue", ((4, 6),))
        self.assert_part(store.derive(versions["intervals"], ("add", 2, 4)), "intervals", ((1, 6),))
        for version in versions.values():
            self.assert_part(store.derive(version, ("as sequence",)), "sequence", pairs)
            self.assert_part(version, version.kind, pairs)
        self.assertEqual(len(store), 12)

    def test_equal_contents_are_another_version(self):
        store = Store()
        version = store.make("map", ((1, 2),))
        other = store.derive(version, ("drop", 7))
        self.assertIsNot(version, other)
        self.assertEqual((len(store), counts(store)), (2, (1, 1, 0)))
        store.let_go(version)
        self.assert_part(other, "map", ((1, 2),))
        self.assertEqual(counts(store), (1, 1, 0))

    def test_versions_of_other_stores(self):
        store, other = Store(), Store()
        version = other.make("sequence", SIX)
        before = state_of(other)
        found = store.derive(version, ("slice", 0, 2))
        self.assert_part(found, "sequence", (1, 2))
        self.assertEqual((counts(store), state_of(other)), ((3, 3, 0), before))
        self.assert_part(store.combine("join", version, version), "sequence", SIX + SIX)
        self.assert_part(store.combine("join", version, found), "sequence", SIX + (1, 2))
        self.assert_part(store.made_by((("copy", 0, 4, 6),), bases=(version,)), "sequence", (5, 6))
        self.assertEqual(state_of(other), before)

    def test_combining(self):
        store = Store()
        first, second = store.make("map", ((1, 2), (3, 4))), store.make("map", ((3, 5), (6, 7)))
        self.assert_part(store.combine("join", first, second), "map", ((1, 2), (3, 5), (6, 7)))
        self.assert_part(store.combine("common", first, second), "map", ((3, 4),))
        self.assert_part(store.combine("others", first, second), "map", ((1, 2),))
        self.assert_part(store.combine("others", second, first), "map", ((6, 7),))
        queue = store.make("queue", ((5, "e"), (5, "f")))
        self.assert_part(store.combine("join", queue, store.make("queue", ((4, "c"), (5, "d")))), "queue",
                         ((4, "c"), (5, "e"), (5, "f"), (5, "d")))
        numbers = store.make("intervals", ((0, 5), (8, 9)))
        self.assert_part(store.combine("join", numbers, store.make("intervals", ((5, 8),))), "intervals", ((0, 9),))

    def test_a_version_with_itself(self):
        store = Store()
        version = store.make("sequence", (1, 2))
        self.assert_part(store.combine("join", version, version), "sequence", (1, 2, 1, 2))
        pairs = store.make("map", ((1, 2), (3, 4)))
        self.assert_part(store.combine("common", pairs, pairs), "map", ((1, 2), (3, 4)))
        self.assert_part(store.combine("others", pairs, pairs), "map", ())
        found, conflicts = store.merge(pairs, pairs, pairs)
        self.assert_part(found, "map", ((1, 2), (3, 4)))
        self.assertEqual(conflicts, ())
        self.assertIs(version.same_as(version), True)
        self.assertEqual(version.shared_with(version), 3)


class MergingTest(StoreCase):
    base = (("a", 1), ("b", 2), ("c", 3))
    ours = (("a", 10), ("b", 2))
    theirs = (("a", 1), ("b", 20), ("c", 3), ("d", 4))

    def versions(self, *stores):
        return [store.make("map", contents) for store, contents in zip(stores, (self.base, self.ours, self.theirs))]

    def test_without_conflicts(self):
        store = Store()
        base, ours, theirs = self.versions(store, store, store)
        before = store.created_count
        found = store.merge(base, ours, theirs)
        self.assertIs(type(found), tuple)
        version, conflicts = found
        self.assertEqual(conflicts, ())
        self.assert_part(version, "map", (("a", 10), ("b", 20), ("d", 4)))
        self.assertEqual(len(store), 4)
        self.assertEqual(store.created_count - before,
                         stores_model.fresh_for([version.contents], stores_model.nodes_of(self.base)
                                                + stores_model.nodes_of(self.ours)
                                                + stores_model.nodes_of(self.theirs)))

    def test_with_conflicts(self):
        store, _ = full_store(36)
        base, ours, _ = self.versions(store, store, store)
        theirs = store.make("map", (("a", 11), ("b", 2), ("c", 4)))
        self.assertEqual(len(store), 40)
        before = state_of(store)
        # Nothing is created, so the number of live versions does not matter.
        found = store.merge(base, ours, theirs)
        self.assert_rows(found)
        self.assertEqual(found, (None, (("a", 1, 10, 11), ("c", 3, None, 4))))
        self.assertEqual(state_of(store), before)

    def test_maps_of_other_stores(self):
        store = Store()
        version, conflicts = store.merge(*self.versions(Store(), Store(), Store()))
        self.assert_part(version, "map", (("a", 10), ("b", 20), ("d", 4)))
        self.assertEqual((conflicts, len(store)), ((), 1))
        self.assertEqual(counts(store), (version.node_count, version.node_count, 0))

    def test_too_many_entries(self):
        store = Store()
        base = store.make("map", ())
        first, second = store.make("map", PAIRS), store.make("map", (("a", 1),))
        self.assert_stays([store], TooManyElements(2001), store.merge, base, first, second)


class TagTest(StoreCase):
    def test_a_tag_keeps_the_nodes(self):
        store = Store()
        version = store.make("sequence", SIX)
        store.tag("a", version)
        self.assertEqual((counts(store), store.tag_names), ((10, 10, 0), ("a",)))
        store.let_go(version)
        self.assertEqual((counts(store), len(store)), ((10, 10, 0), 0))
        found = store.checkout("a")
        self.assert_part(found, "sequence", SIX)
        self.assertEqual((counts(store), len(store)), ((10, 10, 0), 1))
        self.assertIs(store.untag("a"), True)
        self.assertEqual((counts(store), store.tag_names), ((10, 10, 0), ()))
        store.let_go(found)
        self.assertEqual(counts(store), (0, 10, 10))

    def test_checking_out_again_and_again(self):
        store = Store()
        version = store.make("queue", ((1, "b"), (1, "a")))
        store.tag("a", version)
        store.let_go(version)
        versions = [store.checkout("a") for _ in range(3)]
        self.assertEqual(len({id(found) for found in versions}), 3)
        for found in versions:
            self.assert_part(found, "queue", ((1, "b"), (1, "a")))
        self.assertEqual([id(found) for found in store], [id(found) for found in versions])

    def test_replacing_a_tag(self):
        store = Store()
        first, second = store.make("sequence", SIX), store.make("map", ((1, 2),))
        store.tag("a", first)
        store.tag("b", first)
        store.let_go(first)
        store.tag("a", second)
        self.assertEqual((store.tag_names, counts(store)), (("a", "b"), (11, 11, 0)))
        self.assert_part(store.checkout("a"), "map", ((1, 2),))
        store.tag("b", second)
        self.assertEqual((store.tag_names, counts(store)), (("a", "b"), (1, 11, 10)))

    def test_replacing_a_tag_by_a_version_with_the_same_contents(self):
        store = Store()
        first = store.make("sequence", SIX)
        store.tag("a", first)
        store.tag("a", first)
        self.assertEqual((store.tag_names, counts(store)), (("a",), (10, 10, 0)))
        store.let_go(first)
        self.assertEqual(counts(store), (10, 10, 0))
        second = store.make("sequence", SIX)
        store.tag("a", second)
        store.let_go(second)
        self.assertEqual(counts(store), (10, 10, 0))
        self.assertIs(store.untag("a"), True)
        self.assertEqual(counts(store), (0, 10, 10))

    def test_the_kind_of_a_tag(self):
        store = Store()
        store.tag("a", store.make("map", ((1, 2),)))
        store.tag("b", store.make("intervals", ((1, 2),)))
        self.assert_part(store.checkout("a"), "map", ((1, 2),))
        self.assert_part(store.checkout("b"), "intervals", ((1, 2),))

    def test_the_order_of_the_names(self):
        store = Store()
        version = store.make("sequence", (1,))
        names = ("b", "a", "~" * 20, " ", "c")
        for name in names:
            store.tag(name, version)
        self.assert_rows(store.tag_names)
        self.assertEqual(store.tag_names, names)
        store.tag("a", version)
        self.assertEqual(store.tag_names, names)
        store.untag("a")
        store.tag("a", version)
        self.assertEqual(store.tag_names, ("b", "~" * 20, " ", "c", "a"))

    def test_removing_a_tag_that_does_not_exist(self):
        store = Store()
        store.tag("a", store.make("sequence", SIX))
        before = state_of(store)
        self.assertIs(store.untag("b"), False)
        self.assertEqual(state_of(store), before)
        self.assertIs(store.untag("a"), True)
        self.assertIs(store.untag("a"), False)

    def test_20_tags_and_one_more(self):
        store = Store()
        first, second = store.make("sequence", (1,)), store.make("sequence", (2,))
        for place in range(20):
            store.tag(str(place), first)
        self.assert_stays([store], TooManyTags(), store.tag, "x", first)
        store.tag("7", second)
        self.assertEqual(store.tag_names, tuple(str(place) for place in range(20)))
        self.assert_part(store.checkout("7"), "sequence", (2,))
        self.assert_stays([store], TooManyTags(), store.tag, "20", second)
        store.untag("3")
        store.tag("x", first)
        self.assert_stays([store], TooManyTags(), store.tag, "3", second)
        self.assertEqual(store.tag_names[18:], ("19", "x"))

    def test_an_unknown_name(self):
        store = Store()
        self.assert_stays([store], UnknownTag("a"), store.checkout, "a")
        store.tag("a", store.make("sequence", (1,)))
        self.assert_stays([store], UnknownTag("A"), store.checkout, "A")
        store.untag("a")
        self.assert_stays([store], UnknownTag("a"), store.checkout, "a")


class HeldTest(StoreCase):
    def test_the_order(self):
        store = Store()
        first = store.make("sequence", (3, 4))
        store.make("sequence", (1, 2))
        third = store.make("sequence", (5,))
        store.tag("z", third)
        store.tag("a", first)
        self.assertEqual(store.held, (("leaf", 3), ("leaf", 4), ("block", (0, 1)), ("leaf", 1), ("leaf", 2),
                                      ("block", (3, 4)), ("leaf", 5)))
        store.let_go(first)
        store.let_go(third)
        # The tags come last, and "z" was given first.
        self.assertEqual(store.held, (("leaf", 1), ("leaf", 2), ("block", (0, 1)), ("leaf", 5), ("leaf", 3),
                                      ("leaf", 4), ("block", (4, 5))))
        store.tag("z", store.make("sequence", (4,)))
        self.assertEqual(store.held, (("leaf", 1), ("leaf", 2), ("block", (0, 1)), ("leaf", 4), ("leaf", 3),
                                      ("block", (4, 3))))

    def test_runs_and_blocks(self):
        store = Store()
        store.make("sequence", ("x", "y", "y", "y", "x", "y", "y", "y"))
        self.assert_rows(store.held)
        self.assertEqual(store.held, (("leaf", "x"), ("leaf", "y"), ("run", 1, 3), ("block", (0, 2)), ("run", 3, 2)))

    def test_any_contents(self):
        store, expected = Store(), StoreModel()
        for contents in list(SMALL.values())[:20]:
            store.make("sequence", contents)
            expected.add("sequence", contents)
        self.assertEqual(store.held, stores_model.entries_of(expected.nodes()))
        self.assertEqual(counts(store), expected.counts())

    def test_large_versions(self):
        store = Store()
        for contents in LARGE.values():
            store.make("sequence", contents)
        for place in range(20):
            store.make("sequence", WHOLE[place:] + WHOLE[:place])
        held = store.held
        self.assertEqual(len(held), store.node_count)
        self.assertEqual(len(set(held)), len(held))
        for place, entry in enumerate(held):
            children = {"leaf": (), "run": entry[1:2], "block": entry[1]}[entry[0]]
            self.assertTrue(all(child < place for child in children))


class CostTest(StoreCase):
    def test_what_is_held_and_what_is_not(self):
        store = Store()
        self.assertEqual(store.cost_of(SIX), 10)
        first = store.make("sequence", SIX)
        before = state_of(store)
        self.assertEqual(store.cost_of(SIX), 0)
        self.assertEqual(store.cost_of((1, 2, 7, 4, 5, 6)), 3)
        self.assertEqual(store.cost_of((1, 2)), 0)
        self.assertEqual(store.cost_of((2, 3)), 1)
        self.assertEqual(store.cost_of((7, 7, 7)), 2)
        self.assertEqual(store.cost_of(()), 0)
        self.assertEqual(state_of(store), before)
        store.tag("a", first)
        store.let_go(first)
        self.assertEqual(store.cost_of(SIX), 0)
        store.untag("a")
        self.assertEqual(store.cost_of(SIX), 10)

    def test_any_contents(self):
        store = Store()
        held = []
        for contents in list(SMALL.values())[::2]:
            for other in list(SMALL.values())[::3]:
                self.assertEqual(store.cost_of(other), stores_model.fresh_for([other], held))
            expected = stores_model.fresh_for([contents], held)
            before = store.created_count
            store.make("sequence", contents)
            self.assertEqual(store.created_count - before, expected)
            held += stores_model.nodes_of(contents)


class CapacityTest(StoreCase):
    def test_just_reached_and_passed_by_one(self):
        self.assertEqual(len(Store(capacity=10).make("sequence", SIX)), 6)
        store = Store(capacity=9)
        self.assert_stays([store], StoreFull(), store.make, "sequence", SIX)
        store = Store(capacity=13)
        first = store.make("sequence", SIX)
        store.derive(first, ("splice", 2, 1, (7,)))
        self.assert_stays([store], StoreFull(), store.make, "sequence", (8,))
        store.make("sequence", (7,))
        store.make("sequence", ())
        self.assertEqual(counts(store), (13, 13, 0))

    def test_each_call(self):
        store = Store(capacity=10)
        first = store.make("sequence", SIX)
        empty, pairs, more = store.make("map", ()), Store().make("map", ((1, 2),)), Store().make("map", ((3, 4),))
        for function, given in ((store.make, ("sequence", (7,))), (store.make_all, ((("sequence", (7,)),),)),
                                (store.made_by, ((("literal", 7),),)), (store.derive, (first, ("repeat", 2))),
                                (store.combine, ("join", pairs, more)), (store.merge, (empty, pairs, more)),
                                (store.derive, (pairs, ("as sequence",)))):
            self.assert_stays([store], StoreFull(), function, *given)
        # What creates no node is possible.
        store.derive(first, ("slice", 0, 2))
        store.tag("a", first)
        store.checkout("a")
        self.assertEqual(counts(store), (10, 10, 0))

    def test_nodes_that_are_freed(self):
        store = Store(capacity=11)
        first = store.make("sequence", SIX)
        second = store.make("sequence", (7,))
        self.assert_stays([store], StoreFull(), store.make, "sequence", (8,))
        store.let_go(second)
        third = store.make("sequence", (8,))
        store.tag("a", third)
        store.let_go(third)
        self.assert_stays([store], StoreFull(), store.make, "sequence", (7,))
        store.untag("a")
        store.make("sequence", (7,))
        store.let_go(first)
        store.make("sequence", SIX)
        self.assertEqual(counts(store), (11, 23, 12))

    def test_the_greatest_capacity(self):
        store = Store(capacity=1000000)
        for place in range(40):
            store.make("sequence", tuple(range(2000 * place, 2000 * place + 2000)))
        self.assertEqual(store.node_count, store.created_count)
        self.assertGreater(store.node_count, 120000)


class LiveTest(StoreCase):
    def test_40_live_versions_and_one_more(self):
        store, versions = full_store(39)
        pairs = store.make("map", ((1, 2),))
        store.tag("a", pairs)
        for function, given in ((store.make, ("sequence", ())), (store.make_all, ((("map", ()),),)),
                                (store.made_by, ((),)), (store.derive, (pairs, ("as sequence",))),
                                (store.combine, ("join", pairs, pairs)), (store.merge, (pairs, pairs, pairs)),
                                (store.checkout, ("a",))):
            self.assert_stays([store], TooManyVersions(), function, *given)
        store.let_go(versions[3])
        store.checkout("a")
        self.assert_stays([store], TooManyVersions(), store.checkout, "a")
        # The versions of another store do not count.
        self.assertEqual(len(Store().derive(pairs, ("drop", 1))), 0)

    def test_len_and_iteration(self):
        store, versions = full_store(40)
        self.assertEqual((len(store), [id(version) for version in store]), (40, [id(version) for version in versions]))
        for version in versions[::2]:
            store.let_go(version)
        self.assertEqual([id(version) for version in store], [id(version) for version in versions[1::2]])
        new = store.make("sequence", ())
        self.assertEqual([id(version) for version in store], [id(version) for version in versions[1::2]] + [id(new)])
        for version in list(store):
            store.let_go(version)
        self.assertEqual((len(store), list(store), counts(store)), (0, [], (0, 40, 40)))


class HistoryTest(StoreCase):
    def step(self, source, store, expected, versions):
        """Change a store and what is expected of it in the same way."""
        word = source.choice(("make", "make", "derive", "join", "let go", "let go", "tag", "untag", "checkout"))
        if word == "make" and len(versions) < 8:
            contents = picked(source.choice((0, 1, 3, 9, 20)), MIXED, source.randint(0, 5))
            versions.append(store.make("sequence", contents))
            expected.add("sequence", contents)
        elif word == "untag":
            name = source.choice(("a", "b", "c"))
            self.assertIs(store.untag(name), name in expected.tags)
            expected.untag(name)
        elif word == "checkout" and expected.tags and len(versions) < 8:
            name = source.choice(list(expected.tags))
            versions.append(store.checkout(name))
            expected.add(*expected.tags[name])
        elif versions:
            self.step_with(source, word, store, expected, versions)

    def step_with(self, source, word, store, expected, versions):
        place = source.randrange(len(versions))
        if word == "derive" and len(versions) < 8:
            contents = versions[place].contents
            start = source.randint(0, len(contents))
            versions.append(store.derive(versions[place], ("splice", start, 0, ("new",))))
            expected.add("sequence", contents[:start] + ("new",) + contents[start:])
        elif word == "join" and len(versions) < 8:
            versions.append(store.combine("join", versions[place], versions[0]))
            expected.add("sequence", versions[place].contents + versions[0].contents)
        elif word == "tag":
            name = source.choice(("a", "b", "c"))
            store.tag(name, versions[place])
            expected.tag(name, place)
        else:
            store.let_go(versions.pop(place))
            expected.let_go(place)

    def test_any_history(self):
        for seed in range(12):
            source = random.Random(seed)
            store, expected, versions = Store(), StoreModel(), []
            for _ in range(40):
                self.step(source, store, expected, versions)
                self.assertEqual(counts(store), expected.counts())
                self.assertEqual(store.held, stores_model.entries_of(expected.nodes()))
                self.assertEqual(store.tag_names, tuple(expected.tags))
                self.assertEqual([(version.kind, version.contents) for version in store], expected.live)
            # Another store with the same live versions and tags holds the same nodes.
            self.assertEqual(self.rebuilt(expected).held, store.held)

    def rebuilt(self, expected):
        """A store with these live versions and tags, which were made at once."""
        store = Store()
        for name, part in expected.tags.items():
            version = store.make(*part)
            store.tag(name, version)
            store.let_go(version)
        for part in expected.live:
            store.make(*part)
        return store

    def test_versions_that_are_made_step_by_step_and_from_scratch(self):
        for name in ("all different", "two values", "stretches"):
            contents = LARGE[name]
            store = Store()
            version = store.make("sequence", contents[:1000])
            for start in (0, 300, 999, 500):
                new = store.derive(version, ("splice", start, 1, contents[start:start + 1] + ("x", "x", "y")))
                store.let_go(version)
                version = new
            while len(version) > 700:
                new = store.derive(version, ("splice", 350, 97, ()))
                store.let_go(version)
                version = new
            other = Store()
            self.assertEqual(other.make("sequence", version.contents).node_count, store.node_count)
            self.assertEqual(other.held, store.held)
            self.assertEqual(store.cost_of(version.contents), 0)
            before = counts(store)
            store.make("sequence", version.contents)
            self.assertEqual(counts(store), before)


class BoundTest(StoreCase):
    def check(self, store, recipe, bases):
        """Making the value of a recipe creates no more nodes than promised."""
        results = collections_model.recipe_results(recipe, tuple(version.contents for version in bases))
        greatest = max(len(result) for result in results)
        before = store.created_count
        version = store.made_by(recipe, bases=bases)
        created = store.created_count - before
        self.assertLessEqual(created, 20 * greatest.bit_length() * recipe_weight(recipe))
        store.let_go(version)
        return created

    def test_any_recipes(self):
        for seed in range(60):
            source = random.Random(seed)
            store = Store()
            choices = (MIXED, (1, 2), tuple(range(5000)))[seed % 3]
            bases = tuple(store.make("sequence", picked(source.randint(1, 900), choices, seed + place))
                          for place in range(2))
            recipe = []
            for place in range(4):
                base = source.randrange(2)
                start = source.randint(0, len(bases[base]))
                recipe.append(("copy", base, start, source.randint(start, len(bases[base]))))
            recipe.append(("literal", "new"))
            recipe.append(("repeat", source.randrange(5), source.choice((0, 1, 2))))
            recipe.append(("concat", (source.randrange(4), 4, 5 if seed % 2 else 4)))
            lengths = [len(result) for result in collections_model.recipe_results(
                recipe, tuple(base.contents for base in bases))]
            if max(lengths) <= 2000:
                self.check(store, tuple(recipe), bases)

    def test_a_small_change_of_a_large_sequence(self):
        store = Store()
        contents = scattered(2000, 31)
        base = store.make("sequence", contents)
        for place in range(0, 2000, 97):
            recipe = (("copy", 0, 0, place), ("literal", "x"), ("copy", 0, place + 1, 2000), ("concat", (0, 1, 2)))
            self.assertLess(self.check(store, recipe, (base,)), 60)

    def test_a_long_repetition(self):
        store = Store()
        base = store.make("sequence", scattered(40, 32))
        self.assertLess(self.check(store, (("copy", 0, 0, 40), ("repeat", 0, 50)), (base,)), 100)

    def test_what_only_tags_keep_costs_nothing(self):
        store = Store()
        version = store.make("sequence", WHOLE)
        store.tag("a", version)
        store.let_go(version)
        before = store.created_count
        store.make("sequence", WHOLE[:500] + WHOLE[501:])
        self.assertLess(store.created_count - before, 60)


class ElsewhereTest(StoreCase):
    def test_errors_of_the_functions(self):
        store = Store()
        version = store.make("sequence", SIX)
        self.assert_stays([store], IndexOutOfRange(9), store.derive, version, ("slice", 0, 9))
        self.assert_stays([store], TooManyElements(2004), store.derive, version, ("repeat", 334))
        large = store.make("sequence", WHOLE)
        self.assert_stays([store], TooManyElements(2006), store.combine, "join", version, large)

    def test_stores_do_not_touch_each_other(self):
        first, second = Store(), Store()
        first.tag("a", first.make("sequence", SIX))
        self.assertEqual(state_of(second), state_of(Store()))


if __name__ == "__main__":
    unittest.main()
