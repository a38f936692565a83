import random
import unittest

from sameshape.errors import (InvalidContents, InvalidNode, InvalidRoot, NotCanonical, PackTooLarge, ShapeError,
                              TooManyElements, UnknownBaseNodes)
from sameshape.packs import pack_of, unpacked
from tests import model, packs_model
from tests.samples import LARGE, SETS, SMALL, any_map
from tests.support import RowCase

KINDS = ("sequence", "map", "queue", "intervals")
FOUR = (4, (("block", (0, 1)), ("leaf", 4), ("block", (2, 5)), ("block", (4, 6))), (("sequence", 7),))
# The pack of 1, 2 without bases.
TWO = (0, (("leaf", 1), ("leaf", 2), ("block", (0, 1))), (("sequence", 2),))
PAIRS = ((1, 2), (4, 6))


def any_parts(many, seed):
    """Some parts of all kinds."""
    source = random.Random(seed)
    found = []
    for _ in range(many):
        kind = source.choice(KINDS)
        if kind == "sequence":
            contents = source.choice(list(SMALL.values()))
        elif kind == "intervals":
            contents = source.choice(SETS)
        else:
            contents = any_map(6, range(8), (0, "a"), source.randrange(50))
        found.append((kind, contents))
    return tuple(found)


class PackTest(RowCase):
    def test_the_examples(self):
        self.assert_result(FOUR, pack_of, (("sequence", (1, 2, 3, 4)),), bases=((1, 2, 3),))
        self.assert_result((0, (), (("map", None),)), pack_of, (("map", ()),))

    def test_no_parts(self):
        self.assert_result((0, (), ()), pack_of, ())
        self.assert_result((10, (), ()), pack_of, (), bases=((1, 2, 3, 4, 5, 6),))

    def test_parts_without_elements(self):
        parts = tuple((kind, ()) for kind in KINDS)
        self.assert_result((0, (), tuple((kind, None) for kind in KINDS)), pack_of, parts)
        self.assert_result((1, (("leaf", 5),), (("queue", None), ("sequence", 1), ("map", None))), pack_of,
                           (("queue", ()), ("sequence", (5,)), ("map", ())), bases=((4,), ()))

    def test_bases_that_add_no_node(self):
        expected = (4, (("leaf", 9),), (("sequence", 4),))
        self.assert_result(expected, pack_of, (("sequence", (9,)),), bases=((1, 2, 3),))
        self.assert_result(expected, pack_of, (("sequence", (9,)),), bases=((1, 2, 3), (), (2,), (1, 2, 3), (3,)))

    def test_the_same_contents_twice(self):
        self.assert_result((0, (("leaf", 1), ("leaf", 2), ("block", (0, 1))), (("sequence", 2), ("sequence", 2))),
                           pack_of, (("sequence", (1, 2)), ("sequence", (1, 2))))
        pairs = ((1, 2), (4, 6))
        self.assert_result((0, (("leaf", (1, 2)), ("leaf", (4, 6)), ("block", (0, 1))),
                            (("map", 2), ("intervals", 2), ("queue", 2))), pack_of,
                           (("map", pairs), ("intervals", pairs), ("queue", pairs)))

    def test_a_root_that_a_base_has(self):
        self.assert_result((4, (), (("sequence", 3), ("sequence", 1))), pack_of,
                           (("sequence", (1, 2, 3)), ("sequence", (2,))), bases=((1, 2, 3),))
        # The nodes of the base 1 to 6 are the leaves 1 and 2, their block, and so on.
        self.assert_result((10, (), (("sequence", 5),)), pack_of, (("sequence", (3, 4)),), bases=((1, 2, 3, 4, 5, 6),))

    def test_runs(self):
        self.assert_result((2, (("run", 0, 3), ("leaf", "x"), ("leaf", "y"), ("run", 4, 3), ("block", (3, 5)),
                                ("run", 6, 2)), (("sequence", 2), ("sequence", 7))), pack_of,
                           (("sequence", (7, 7, 7)), ("sequence", ("x", "y", "y", "y") * 2)), bases=((7, 7),))

    def test_any_parts(self):
        for seed in range(60):
            parts = any_parts(seed % 9, seed)
            bases = tuple(contents for _, contents in any_parts(seed // 9 % 9, seed + 100))
            pack = packs_model.pack(parts, bases)
            self.assert_result(pack, pack_of, parts, bases=bases)
            self.assert_result(parts, unpacked, pack, bases=bases)

    def test_eight_parts_and_eight_bases(self):
        bases = tuple(LARGE.values()) + (tuple(range(5, 1900)), ())
        parts = tuple(("sequence", contents[::-1]) for contents in bases)
        with self.assertRaises(PackTooLarge):
            pack_of(parts)
        parts = tuple(("sequence", contents[7:]) for contents in bases)
        pack = pack_of(parts, bases=bases)
        self.assertLess(len(pack[1]), 200)
        self.assert_result(parts, unpacked, pack, bases=bases)

    def test_4000_entries_and_one_more(self):
        parts = (("sequence", tuple(range(2000))), ("sequence", tuple("abcdefghi")), ("sequence", ("q",)))
        pack = pack_of(parts)
        self.assertEqual(len(pack[1]), 4000)
        self.assert_result(parts, unpacked, pack)
        self.assert_refused(PackTooLarge(4001), pack_of, parts + (("sequence", ("x",)),))
        # Nodes of bases do not count.
        self.assertEqual(len(pack_of(parts + (("sequence", ("x",)),), bases=(("q",),))[1]), 4000)

    def test_how_many_entries_are_too_many(self):
        parts = tuple(("sequence", tuple(range(place * 2000, place * 2000 + 2000))) for place in range(8))
        many = sum(len(pack_of((part,))[1]) for part in parts)
        self.assert_refused(PackTooLarge(many), pack_of, parts)


class UnpackTest(RowCase):
    def check(self, error, pack, bases=()):
        self.assert_refused(error, unpacked, pack, bases=bases)

    def test_the_examples(self):
        self.check(NotCanonical(), (4, (("block", (0, 0)),), (("sequence", 4),)), ((1, 2, 3),))
        self.assert_result((("sequence", (1, 2, 3, 4)),), unpacked, FOUR, bases=((1, 2, 3),))

    def test_parts_without_elements(self):
        self.assert_result((), unpacked, (0, (), ()))
        self.assert_result((("map", ()), ("sequence", ())), unpacked, (0, (), (("map", None), ("sequence", None))))

    def test_unknown_base_nodes(self):
        for known in (0, 3, 5, 65534):
            self.check(UnknownBaseNodes(), (known,) + FOUR[1:], ((1, 2, 3),))
        self.check(UnknownBaseNodes(), FOUR)
        self.check(UnknownBaseNodes(), FOUR, ((1, 2),))
        self.check(UnknownBaseNodes(), FOUR, ((1, 2, 3), (4,)))
        self.check(UnknownBaseNodes(), (1, (), ()))
        self.assert_result((), unpacked, (4, (), ()), bases=((1, 2, 3),))

    def test_other_bases_with_as_many_nodes(self):
        self.assert_result((("sequence", (7, 8, 9, 4)),), unpacked, FOUR, bases=((7, 8, 9),))
        self.check(NotCanonical(), FOUR, ((4, 8, 9),))
        self.check(NotCanonical(), FOUR, ((1, 2), (3,)))

    def test_nodes_that_do_not_come_before(self):
        self.check(InvalidNode(0), (0, (("run", 0, 2),), ()))
        self.check(InvalidNode(0), (4, (("run", 4, 2),), ()), ((1, 2, 3),))
        self.check(InvalidNode(1), (0, (("leaf", 1), ("block", (0, 1))), (("sequence", 1),)))
        self.check(InvalidNode(1), (0, (("leaf", 1), ("block", (2, 0)), ("leaf", 3)), (("sequence", 1),)))
        self.check(InvalidNode(2), (0, (("leaf", 1), ("leaf", 2), ("block", (0, 1, 65534)), ("run", 9, 2)), ()))
        self.check(InvalidNode(1), (4, (("leaf", 4), ("block", (3, 5)), ("run", 9, 2)), ()), ((1, 2, 3),))

    def test_roots_that_do_not_exist(self):
        self.check(InvalidRoot(0), (0, (), (("sequence", 0),)))
        self.check(InvalidRoot(0), (0, TWO[1], (("sequence", 3),)))
        self.check(InvalidRoot(2), (0, TWO[1], (("sequence", 2), ("map", None), ("map", 65534), ("sequence", 9))))
        self.check(InvalidRoot(1), (4, FOUR[1], (("sequence", 7), ("sequence", 8))), ((1, 2, 3),))

    def test_nodes_that_are_too_large(self):
        runs = (("leaf", 1), ("run", 0, 2000), ("run", 0, 2001), ("block", (1, 0)))
        self.check(TooManyElements(2001), (0, runs[:1] + runs[2:3], (("sequence", 1),)))
        self.check(TooManyElements(2001), (0, runs, (("sequence", 1), ("sequence", 3))))
        self.check(NotCanonical(), (0, runs, (("sequence", 1),)))
        self.check(TooManyElements(2001), (0, (("leaf", 1), ("run", 0, 65535)), (("sequence", 1),)))
        # The node of a base counts as a whole, too.
        base = tuple(range(1500))
        many = len(pack_of((("sequence", base),))[1])
        self.check(TooManyElements(2001), (many, (("block", (many - 1, many - 1)),), (("sequence", many),)), (base,))
        self.check(NotCanonical(), (many, (("block", (many - 1, 0)),), (("sequence", many),)), (base,))

    def test_runs_of_runs(self):
        self.check(NotCanonical(), (0, (("leaf", 1), ("run", 0, 2), ("run", 1, 2)), (("sequence", 2),)))
        entries = (("leaf", 1),) + tuple(("run", place, 65535) for place in range(3999))
        self.check(TooManyElements(2001), (0, entries, (("sequence", 3999),)))
        self.check(TooManyElements(2001), (0, entries, (("sequence", 0), ("sequence", 2))))
        self.check(NotCanonical(), (0, entries, (("sequence", 0),)))
        entries = (("leaf", 1),) + tuple(("run", place, 2) for place in range(11))
        self.check(TooManyElements(2001), (0, entries, (("sequence", 11),)))
        self.check(NotCanonical(), (0, entries, (("sequence", 10),)))

    def test_blocks_in_one_another(self):
        entries = (("leaf", 1), ("leaf", 2)) + tuple(("block", (place, 0)) for place in range(1, 3999))
        self.assertEqual(len(entries), 4000)
        self.check(TooManyElements(2001), (0, entries, (("sequence", 3999),)))
        self.check(TooManyElements(2001), (0, entries, (("sequence", 2001),)))
        self.check(NotCanonical(), (0, entries, (("sequence", 2000),)))
        self.check(NotCanonical(), (0, entries[:2001], (("sequence", 2000),) * 8))
        self.check(InvalidContents(0), (0, entries[:2001], (("map", 2000),)))
        entries = (("leaf", 1),) + tuple(("block", (place,) * 12) for place in range(3999))
        self.check(TooManyElements(2001), (0, entries, (("sequence", 3999),)))

    def test_contents_that_are_not_valid(self):
        entries = (("leaf", (4, 6)), ("leaf", (1, 2)), ("block", (0, 1)))
        for kind in ("map", "queue", "intervals"):
            self.check(InvalidContents(0), (0, entries, ((kind, 2),)))
            self.check(InvalidContents(0), TWO[:2] + (((kind, 0),),))
            self.check(InvalidContents(1), (0, entries, (("sequence", 2), (kind, 2), (kind, 2))))
            self.check(InvalidContents(2), (0, entries, ((kind, None), (kind, 1), (kind, 2))))
        self.check(InvalidContents(0), (0, (("leaf", (2, 2)),), (("intervals", 0),)))
        self.assert_result((("map", ((2, 2),)),), unpacked, (0, (("leaf", (2, 2)),), (("map", 0),)))

    def test_entries_that_are_not_those_of_the_pack(self):
        one, two, block = TWO[1]
        other = ("block", (1, 0))
        for entries, root in (((one, two), 1), ((two, one, other), 2), ((one, two, other), 2),
                              ((one, one, two, ("block", (0, 2))), 3), ((one, two, one, block), 3),
                              ((one, two, block, ("leaf", 3)), 2), ((one, two, ("leaf", 3), block), 3),
                              ((one, two, block, block), 2), ((one, two, block, block), 3),
                              ((one, two, block, ("block", (2, 0))), 2), ((one, two, block), 1),
                              ((one, ("run", 0, 2), two, block), 3)):
            self.check(NotCanonical(), (0, entries, (("sequence", root),)))
        self.check(NotCanonical(), (0, TWO[1], ()))
        self.check(NotCanonical(), (0, TWO[1], (("sequence", None),)))

    def test_a_root_that_is_not_the_last_entry(self):
        entries = TWO[1] + (("leaf", 3),)
        self.check(NotCanonical(), (0, entries, (("sequence", 2),)))
        self.assert_result((("sequence", (1, 2)), ("sequence", (3,))), unpacked,
                           (0, entries, (("sequence", 2), ("sequence", 3))))
        self.check(NotCanonical(), (0, entries, (("sequence", 3), ("sequence", 2))))
        self.assert_result((("sequence", (1, 2)), ("sequence", (2,))), unpacked,
                           (0, TWO[1], (("sequence", 2), ("sequence", 1))))

    def test_nodes_that_a_base_has(self):
        self.check(NotCanonical(), (2, (("leaf", 1), ("leaf", 3), ("block", (2, 3))), (("sequence", 4),)), ((1,), (2,)))
        self.assert_result((("sequence", (1, 3)),), unpacked,
                           (2, (("leaf", 3), ("block", (0, 2))), (("sequence", 3),)), bases=((1,), (2,)))
        self.check(NotCanonical(), (3, (("leaf", 1),), (("sequence", 3),)), ((1, 2),))
        self.check(NotCanonical(), (3, (("block", (0, 1)),), (("sequence", 3),)), ((1, 2),))
        self.assert_result((("sequence", (1, 2)),), unpacked, (3, (), (("sequence", 2),)), bases=((1, 2),))

    def test_trees_that_are_not_canonical(self):
        self.check(NotCanonical(), (0, (("leaf", 1), ("block", (0, 0))), (("sequence", 1),)))
        leaves = tuple(("leaf", place) for place in range(1, 7))
        self.check(NotCanonical(), (0, leaves + (("block", (0, 1, 2, 3, 4, 5)),), (("sequence", 6),)))

    def test_nodes_of_bases_as_roots(self):
        found = []
        # In the tree of the first one there is a block (8 4 5 6); by themselves these would be two blocks.
        for base in ((8, 4, 8, 4, 5, 6), ("a", 7, 1, 0, 7, 9, 5, 4), SMALL["stretches"],
                     SMALL["a root that is a run of nine blocks"]):
            nodes = packs_model.nodes_of([base])
            for number, node in enumerate(nodes):
                pack = (len(nodes), (), (("sequence", number),))
                contents = tuple(model.leaves(node))
                is_tree = model.tree(contents) == node
                if is_tree:
                    self.assert_result((("sequence", contents),), unpacked, pack, bases=(base,))
                else:
                    self.check(NotCanonical(), pack, (base,))
                found.append(is_tree)
        self.assertEqual(set(found), {True, False})

    def test_a_pack_with_too_many_entries(self):
        parts = (("sequence", tuple(range(2000))), ("sequence", tuple("abcdefghi")), ("sequence", ("q",)))
        known, entries, roots = pack_of(parts)
        self.assertEqual(len(entries), 4000)
        self.check(NotCanonical(), (known, entries + (("leaf", "x"),), roots + (("sequence", 4000),)))

    def test_one_change_of_a_pack(self):
        bases = ((1, 2, 3), ("a", "b"))
        for seed in range(20):
            pack = pack_of(any_parts(3, seed), bases=bases)
            known, entries, roots = pack
            for place, entry in enumerate(entries[:40]):
                for other in (("leaf", "new"), ("run", 0, 2), ("block", (0, 1)), ("leaf", 1)):
                    if other != entry:
                        changed = (known, entries[:place] + (other,) + entries[place + 1:], roots)
                        self.check_changed(changed, bases)
                self.check_changed((known, entries[:place] + entries[place + 1:], roots), bases)

    def check_changed(self, pack, bases):
        """The pack is refused, or it is the pack of the parts that it gives."""
        try:
            parts = unpacked(pack, bases=bases)
        except ShapeError:
            return
        self.assertEqual(packs_model.pack(parts, bases), pack)


class OrderTest(RowCase):
    """Of two errors that could be raised the one that the document lists first is raised."""

    far = ("run", 9, 2)
    large = (("leaf", 1), ("run", 0, 2001))

    def check(self, error, *pack):
        self.assert_refused(error, unpacked, pack)

    def test_unknown_base_nodes_come_first(self):
        self.check(UnknownBaseNodes(), 1, (self.far,), ())
        self.check(UnknownBaseNodes(), 1, (), (("sequence", 5),))
        self.check(UnknownBaseNodes(), 1, (("leaf", 1), ("run", 1, 2001)), (("sequence", 2),))
        self.check(UnknownBaseNodes(), 1, (("leaf", 1),), (("map", 1),))
        self.check(UnknownBaseNodes(), 1, (("leaf", 1),), ())

    def test_nodes_come_before_roots(self):
        self.check(InvalidNode(1), 0, (("leaf", 1), self.far), (("sequence", 7),))
        self.check(InvalidNode(2), 0, self.large + (self.far,), (("sequence", 1),))
        self.check(InvalidNode(1), 0, (("leaf", 1), self.far), (("map", 0),))
        self.check(InvalidNode(1), 0, (("leaf", 1), self.far, ("leaf", 1)), (("sequence", 0),))

    def test_roots_come_before_sizes(self):
        self.check(InvalidRoot(1), 0, self.large, (("sequence", 1), ("sequence", 2)))
        self.check(InvalidRoot(1), 0, (("leaf", 1),), (("map", 0), ("sequence", 2)))
        self.check(InvalidRoot(1), 0, (("leaf", 1), ("leaf", 1)), (("sequence", 0), ("sequence", 2)))

    def test_sizes_come_before_contents(self):
        self.check(TooManyElements(2001), 0, self.large, (("map", 0), ("sequence", 1)))
        self.check(TooManyElements(2001), 0, self.large, (("map", 1),))
        self.check(TooManyElements(2001), 0, self.large + (("leaf", 1),), (("sequence", 1),))

    def test_contents_come_before_the_canonical_form(self):
        self.check(InvalidContents(1), 0, (("leaf", 1), ("leaf", 1)), (("sequence", 0), ("map", 1)))
        self.check(InvalidContents(0), 0, (("leaf", 1), ("block", (0, 0))), (("queue", 1),))


if __name__ == "__main__":
    unittest.main()
