import random
import unittest

from sameshape.editors import Editor
from sameshape.edits import apply_edits, clashes, merged_edits
from sameshape.errors import TooManyElements
from tests.samples import picked
from tests.support import RowCase

BASE = ("a", "b", "c", "d", "e")
ELEMENTS = (1, 2, "a", ("a", 1))


def any_edits(many, seed):
    """Some edits of a base with so many elements."""
    source = random.Random(seed)
    found = []
    place = 0
    while place <= many:
        start = place + source.choice((0, 1, 1, 2, 4))
        end = min(many, start + source.choice((0, 0, 1, 1, 2, 3)))
        inserted = picked(source.choice((0, 1, 1, 2)), ELEMENTS, source.random())
        if start <= end and (start < end or inserted):
            found.append((start, end, inserted))
        place = max(start, end) + 1
    return tuple(found)


def applied(contents, edits):
    """The contents after the edits, made from the last one to the first one."""
    found = list(contents)
    for start, end, inserted in reversed(edits):
        found[start:end] = inserted
    return tuple(found)


def touch(first, second):
    return first[0] <= second[1] and second[0] <= first[1]


def clashing(ours, theirs):
    return tuple((i, j) for i in range(len(ours)) for j in range(len(theirs))
                 if touch(ours[i], theirs[j]) and ours[i] != theirs[j])


class ApplyTest(RowCase):
    def test_the_examples(self):
        self.assert_result(("a", "x", "d", "y", "e"), apply_edits, BASE, ((1, 3, ("x",)), (4, 4, ("y",))))
        self.assert_result(("a", "x", "d", "e"), apply_edits, BASE, ((1, 3, ("x",)),))
        self.assert_result(("a", "x", "y", "z", "d", "e"), apply_edits, BASE, ((1, 3, ("x", "y", "z")),))
        self.assert_result(("a", "d", "e"), apply_edits, BASE, ((1, 3, ()),))

    def test_no_edits(self):
        self.assert_result(BASE, apply_edits, BASE, ())
        self.assert_result((), apply_edits, (), ())

    def test_at_the_beginning_and_at_the_end(self):
        self.assert_result(("x",) + BASE, apply_edits, BASE, ((0, 0, ("x",)),))
        self.assert_result(BASE[1:], apply_edits, BASE, ((0, 1, ()),))
        self.assert_result(BASE + ("x", "y"), apply_edits, BASE, ((5, 5, ("x", "y")),))
        self.assert_result(BASE[:4], apply_edits, BASE, ((4, 5, ()),))
        self.assert_result(("x", "b", "c", "d", "y"), apply_edits, BASE, ((0, 1, ("x",)), (4, 5, ("y",))))
        self.assert_result(("x",), apply_edits, BASE, ((0, 5, ("x",)),))
        self.assert_result((), apply_edits, BASE, ((0, 5, ()),))
        self.assert_result((("p", 1),), apply_edits, (), ((0, 0, (("p", 1),)),))

    def test_all_indices_are_those_of_the_base(self):
        self.assert_result(("w", "x", "y", "a", "c", "z", "d", "e"), apply_edits, BASE,
                           ((0, 0, ("w", "x", "y")), (1, 2, ()), (3, 3, ("z",))))

    def test_any_edits(self):
        for seed in range(150):
            contents = picked(seed % 17, ELEMENTS, seed)
            edits = any_edits(len(contents), seed)
            self.assert_result(applied(contents, edits), apply_edits, contents, edits)

    def test_2000_and_2001_elements(self):
        whole = tuple(range(2000))
        self.assert_result(whole, apply_edits, whole[:7] + whole[8:], ((7, 7, (7,)),))
        self.assert_result(("x",) + whole[1:1999] + ("y",), apply_edits, whole, ((0, 1, ("x",)), (1999, 2000, ("y",))))
        self.assert_refused(TooManyElements(2001), apply_edits, whole, ((0, 0, ("x",)),))
        self.assert_refused(TooManyElements(2001), apply_edits, whole, ((5, 6, ()), (2000, 2000, ("x", "y"))))
        self.assert_refused(TooManyElements(4000), apply_edits, whole, ((1000, 1000, whole),))

    def test_the_edits_of_an_editor(self):
        for seed in range(40):
            source = random.Random(seed)
            base = picked(seed % 11, ELEMENTS, seed)
            editor = Editor(base)
            for _ in range(12):
                start = source.randint(0, len(editor))
                end = source.randint(start, min(len(editor), start + 2))
                editor.replace_range(start, end, picked(source.randint(0, 2), ELEMENTS, source.random()))
                self.assert_result(editor.contents, apply_edits, base, editor.edits)


class ClashesTest(RowCase):
    def test_the_examples(self):
        self.assert_result(((0, 0),), clashes, ((1, 3, ("x",)),), ((3, 3, ("y",)),))
        self.assert_result((), clashes, ((1, 3, ("x",)),), ((4, 4, ("y",)),))

    def test_no_edits(self):
        self.assert_result((), clashes, (), ())
        self.assert_result((), clashes, ((1, 3, ("x",)),), ())
        self.assert_result((), clashes, (), ((1, 3, ("x",)),))

    def test_equal_edits(self):
        edits = ((0, 0, ("x",)), (1, 3, ()), (5, 5, ("y", "z")))
        self.assert_result((), clashes, edits, edits)
        self.assert_result(((0, 0),), clashes, ((1, 3, ("x",)),), ((1, 3, ("y",)),))
        self.assert_result(((0, 0),), clashes, ((1, 3, ("x",)),), ((1, 3, ()),))
        self.assert_result(((0, 0),), clashes, ((2, 2, ("x",)),), ((2, 2, ("x", "x")),))
        self.assert_result(((0, 0),), clashes, ((2, 2, (1,)),), ((2, 2, ("1",)),))

    def test_edits_that_touch_at_one_index(self):
        for ours, theirs in (((1, 3, ()), (3, 4, ())), ((1, 3, ("x",)), (3, 3, ("x",))), ((2, 2, ("x",)), (2, 4, ())),
                             ((0, 0, ("x",)), (0, 1, ("x",)))):
            self.assert_result(((0, 0),), clashes, (ours,), (theirs,))
            self.assert_result(((0, 0),), clashes, (theirs,), (ours,))

    def test_edits_that_contain_one_another(self):
        for ours, theirs in (((0, 5, ()), (2, 3, ())), ((1, 4, ("x",)), (2, 2, ("x",))), ((1, 4, ()), (1, 3, ())),
                             ((1, 4, ()), (2, 4, ()))):
            self.assert_result(((0, 0),), clashes, (ours,), (theirs,))
            self.assert_result(((0, 0),), clashes, (theirs,), (ours,))

    def test_edits_that_stand_apart(self):
        for ours, theirs in (((0, 1, ()), (2, 3, ())), ((0, 0, ("x",)), (1, 1, ("x",))), ((0, 2, ()), (3, 3, ("x",)))):
            self.assert_result((), clashes, (ours,), (theirs,))
            self.assert_result((), clashes, (theirs,), (ours,))

    def test_the_order_of_the_pairs(self):
        ours = ((0, 4, ()), (6, 6, ("x",)), (8, 12, ()))
        theirs = ((0, 0, ("y",)), (2, 3, ()), (4, 8, ()), (10, 10, ("z",)), (12, 13, ()))
        self.assert_result(((0, 0), (0, 1), (0, 2), (1, 2), (2, 2), (2, 3), (2, 4)), clashes, ours, theirs)
        self.assert_result(((0, 0), (1, 0), (2, 0), (2, 1), (2, 2), (3, 2), (4, 2)), clashes, theirs, ours)

    def test_any_edits(self):
        for seed in range(200):
            ours, theirs = any_edits(seed % 19, seed), any_edits(seed % 19, seed + 1000)
            self.assert_result(clashing(ours, theirs), clashes, ours, theirs)
            self.assert_result(clashing(theirs, ours), clashes, theirs, ours)

    def test_a_thousand_edits(self):
        ours = tuple((place, place, ("x",)) for place in range(0, 2000, 2))
        theirs = tuple((place, place + 1, ()) for place in range(1, 1999, 2))
        self.assert_result(tuple((place, place - 1) for place in range(1, 1000)), clashes, ours, theirs)
        self.assert_result(tuple((place, 0) for place in range(1000)), clashes, ours, ((0, 2000, ()),))


class MergedTest(RowCase):
    def test_the_examples(self):
        self.assert_result(((1, 3, ("x",)), (4, 4, ("y",))), merged_edits, ((1, 3, ("x",)),), ((4, 4, ("y",)),))
        self.assert_result(None, merged_edits, ((1, 3, ("x",)),), ((3, 3, ("y",)),))

    def test_no_edits(self):
        edits = ((0, 0, ("x",)), (3, 5, ()))
        self.assert_result((), merged_edits, (), ())
        self.assert_result(edits, merged_edits, edits, ())
        self.assert_result(edits, merged_edits, (), edits)

    def test_an_edit_that_stands_in_both(self):
        ours = ((0, 0, ("x",)), (3, 5, ()), (9, 9, (1, 2)))
        theirs = ((1, 2, ("y",)), (3, 5, ()), (7, 7, ("z",)))
        self.assert_result(((0, 0, ("x",)), (1, 2, ("y",)), (3, 5, ()), (7, 7, ("z",)), (9, 9, (1, 2))),
                           merged_edits, ours, theirs)
        self.assert_result(ours, merged_edits, ours, ours)

    def test_in_ascending_order(self):
        ours = ((2, 2, ("x",)), (10, 11, ()))
        theirs = ((0, 1, ()), (4, 6, ()), (13, 13, ("y",)))
        expected = ((0, 1, ()), (2, 2, ("x",)), (4, 6, ()), (10, 11, ()), (13, 13, ("y",)))
        self.assert_result(expected, merged_edits, ours, theirs)
        self.assert_result(expected, merged_edits, theirs, ours)

    def test_one_clash_is_enough(self):
        ours = ((0, 1, ()), (4, 4, ("x",)), (9, 10, ()))
        self.assert_result(None, merged_edits, ours, ((2, 2, ("y",)), (9, 10, ("z",))))
        self.assert_result(None, merged_edits, ours, ((0, 1, ()), (4, 4, ("x",)), (10, 11, ())))

    def test_any_edits(self):
        found = []
        for seed in range(300):
            many = seed % 23
            ours, theirs = any_edits(many, seed)[::3], any_edits(many, seed + 1000)[1::3]
            if ours and seed % 3 == 0:
                # One edit stands in both.
                theirs = tuple(sorted([edit for edit in theirs if not touch(edit, ours[0])] + [ours[0]]))
            expected = None
            if not clashing(ours, theirs):
                expected = tuple(sorted(set(ours + theirs)))
                contents = picked(many, ELEMENTS, seed)
                self.assertEqual(apply_edits(contents, expected), applied(contents, expected))
            self.assert_result(expected, merged_edits, ours, theirs)
            self.assert_result(expected, merged_edits, theirs, ours)
            found.append(expected is None)
        self.assertEqual(set(found), {True, False})


if __name__ == "__main__":
    unittest.main()
