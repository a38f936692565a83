import random
import unittest

from sameshape.edits import apply_edits
from sameshape.editors import Editor
from sameshape.errors import IndexOutOfRange, TooManyElements
from tests.samples import picked
from tests.support import RowCase

BASE = ("a", "b", "c", "d", "e")


class EditorModel:
    """An editor that keeps every state: the elements with their places in the base, or None for inserted ones."""

    def __init__(self, base):
        self.base = base
        self.states = [list(enumerate(base))]
        self.now = 0

    @property
    def rows(self):
        return self.states[self.now]

    def replace_range(self, start, end, inserted):
        rows = self.rows[:start] + [(None, element) for element in inserted] + self.rows[end:]
        self.states = self.states[:self.now + 1] + [rows]
        self.now += 1
        return len(rows)

    def move(self, by):
        if not 0 <= self.now + by < len(self.states):
            return False
        self.now += by
        return True

    def pieces(self):
        found = []
        for place, element in self.rows:
            last = found[-1] if found else ("none",)
            if place is None and last[0] == "inserted":
                found[-1] = ("inserted", last[1] + (element,))
            elif place is None:
                found.append(("inserted", (element,)))
            elif last[0] == "kept" and last[2] == place:
                found[-1] = ("kept", last[1], place + 1)
            else:
                found.append(("kept", place, place + 1))
        return tuple(found)

    def edits(self):
        """What stands between each two neighbors of the kept elements, and before and behind them."""
        rows = [(-1, None)] + self.rows + [(len(self.base), None)]
        kept = [index for index, row in enumerate(rows) if row[0] is not None]
        found = []
        for left, right in zip(kept, kept[1:]):
            inserted = tuple(element for _, element in rows[left + 1:right])
            start, end = rows[left][0] + 1, rows[right][0]
            if inserted or start < end:
                found.append((start, end, inserted))
        return tuple(found)


class EditorCase(RowCase):
    def check(self, editor, pieces, contents, edits):
        for value in (editor.pieces, editor.contents, editor.edits):
            self.assert_rows(value)
        self.assertEqual(editor.pieces, pieces)
        self.assertEqual(editor.contents, contents)
        self.assertEqual(editor.edits, edits)
        self.assertEqual(len(editor), len(contents))
        self.assertEqual(tuple(editor), contents)

    def check_model(self, editor, model):
        contents = tuple(element for _, element in model.rows)
        self.check(editor, model.pieces(), contents, model.edits())
        self.assertEqual(apply_edits(model.base, editor.edits), contents)

    def edited(self, *replacements):
        """An editor of the base after some replacements."""
        editor = Editor(BASE)
        for start, end, inserted in replacements:
            editor.replace_range(start, end, inserted)
        return editor


class ReplacingTest(EditorCase):
    def test_the_examples(self):
        editor = Editor(BASE)
        self.assert_result(4, editor.replace_range, 1, 3, ("x",))
        self.check(editor, (("kept", 0, 1), ("inserted", ("x",)), ("kept", 3, 5)), ("a", "x", "d", "e"),
                   ((1, 3, ("x",)),))
        self.assert_result(6, editor.replace_range, 2, 2, ("y", "z"))
        self.check(editor, (("kept", 0, 1), ("inserted", ("x", "y", "z")), ("kept", 3, 5)),
                   ("a", "x", "y", "z", "d", "e"), ((1, 3, ("x", "y", "z")),))
        self.assertIs(editor.undo(), True)
        self.assertEqual(editor.contents, ("a", "x", "d", "e"))
        self.assert_result(3, editor.replace_range, 1, 2, ())
        self.check(editor, (("kept", 0, 1), ("kept", 3, 5)), ("a", "d", "e"), ((1, 3, ()),))
        self.assertIs(editor.redo(), False)

    def test_the_example_of_the_interface(self):
        editor = self.edited((1, 3, ("x",)))
        editor.undo()
        self.assertEqual((editor.contents, editor.redo(), editor.edits), (BASE, True, ((1, 3, ("x",)),)))

    def test_a_new_editor(self):
        self.check(Editor(BASE), (("kept", 0, 5),), BASE, ())
        self.check(Editor((("p", 1),)), (("kept", 0, 1),), (("p", 1),), ())

    def test_a_base_without_elements(self):
        editor = Editor(())
        self.check(editor, (), (), ())
        self.assert_result(2, editor.replace_range, 0, 0, (1, "a"))
        self.check(editor, (("inserted", (1, "a")),), (1, "a"), ((0, 0, (1, "a")),))
        self.assert_result(0, editor.replace_range, 0, 2, ())
        self.check(editor, (), (), ())

    def test_within_a_kept_piece(self):
        self.check(self.edited((2, 4, ("x",))), (("kept", 0, 2), ("inserted", ("x",)), ("kept", 4, 5)),
                   ("a", "b", "x", "e"), ((2, 4, ("x",)),))
        self.check(self.edited((2, 2, ("x",))), (("kept", 0, 2), ("inserted", ("x",)), ("kept", 2, 5)),
                   ("a", "b", "x", "c", "d", "e"), ((2, 2, ("x",)),))
        self.check(self.edited((2, 4, ())), (("kept", 0, 2), ("kept", 4, 5)), ("a", "b", "e"), ((2, 4, ()),))

    def test_within_an_inserted_piece(self):
        first = (2, 2, ("v", "w", "x", "y"))
        self.check(self.edited(first, (3, 5, ("z",))),
                   (("kept", 0, 2), ("inserted", ("v", "z", "y")), ("kept", 2, 5)),
                   ("a", "b", "v", "z", "y", "c", "d", "e"), ((2, 2, ("v", "z", "y")),))
        self.check(self.edited(first, (3, 5, ())), (("kept", 0, 2), ("inserted", ("v", "y")), ("kept", 2, 5)),
                   ("a", "b", "v", "y", "c", "d", "e"), ((2, 2, ("v", "y")),))

    def test_across_several_pieces(self):
        editor = self.edited((1, 2, ("x",)), (3, 4, ("y", "z")))
        self.check(editor, (("kept", 0, 1), ("inserted", ("x",)), ("kept", 2, 3), ("inserted", ("y", "z")),
                            ("kept", 4, 5)), ("a", "x", "c", "y", "z", "e"), ((1, 2, ("x",)), (3, 4, ("y", "z"))))
        editor.replace_range(1, 4, ("w",))
        self.check(editor, (("kept", 0, 1), ("inserted", ("w", "z")), ("kept", 4, 5)), ("a", "w", "z", "e"),
                   ((1, 4, ("w", "z")),))

    def test_at_the_borders_between_pieces(self):
        first = (1, 3, ("x",))
        self.check(self.edited(first, (1, 1, ("w",))), (("kept", 0, 1), ("inserted", ("w", "x")), ("kept", 3, 5)),
                   ("a", "w", "x", "d", "e"), ((1, 3, ("w", "x")),))
        self.check(self.edited(first, (2, 2, ("y",))), (("kept", 0, 1), ("inserted", ("x", "y")), ("kept", 3, 5)),
                   ("a", "x", "y", "d", "e"), ((1, 3, ("x", "y")),))
        self.check(self.edited(first, (1, 2, ("y",))), (("kept", 0, 1), ("inserted", ("y",)), ("kept", 3, 5)),
                   ("a", "y", "d", "e"), ((1, 3, ("y",)),))
        self.check(self.edited((1, 3, ()), (1, 1, ("x",))), (("kept", 0, 1), ("inserted", ("x",)), ("kept", 3, 5)),
                   ("a", "x", "d", "e"), ((1, 3, ("x",)),))
        self.check(self.edited((1, 3, ()), (1, 2, ())), (("kept", 0, 1), ("kept", 4, 5)), ("a", "e"), ((1, 4, ()),))

    def test_all_elements(self):
        self.check(self.edited((0, 5, ())), (), (), ((0, 5, ()),))
        self.check(self.edited((0, 5, BASE)), (("inserted", BASE),), BASE, ((0, 5, BASE),))
        self.check(self.edited((1, 2, ("x",)), (0, 5, ("y",))), (("inserted", ("y",)),), ("y",), ((0, 5, ("y",)),))

    def test_nothing_by_nothing(self):
        for place in range(6):
            editor = Editor(BASE)
            self.assert_result(5, editor.replace_range, place, place, ())
            self.check(editor, (("kept", 0, 5),), BASE, ())

    def test_an_element_in_place_of_an_equal_one(self):
        self.check(self.edited((2, 3, ("c",))), (("kept", 0, 2), ("inserted", ("c",)), ("kept", 3, 5)), BASE,
                   ((2, 3, ("c",)),))

    def test_an_element_next_to_an_equal_one(self):
        before = self.edited((2, 2, ("c",)))
        behind = self.edited((3, 3, ("c",)))
        self.assertEqual(before.contents, behind.contents)
        self.check(before, (("kept", 0, 2), ("inserted", ("c",)), ("kept", 2, 5)), ("a", "b", "c", "c", "d", "e"),
                   ((2, 2, ("c",)),))
        self.check(behind, (("kept", 0, 3), ("inserted", ("c",)), ("kept", 3, 5)), ("a", "b", "c", "c", "d", "e"),
                   ((3, 3, ("c",)),))
        before.replace_range(3, 4, ())
        self.check(before, (("kept", 0, 2), ("inserted", ("c",)), ("kept", 3, 5)), BASE, ((2, 3, ("c",)),))
        behind.replace_range(3, 4, ())
        self.check(behind, (("kept", 0, 5),), BASE, ())

    def test_pieces_that_join_again(self):
        self.check(self.edited((2, 2, ("x", "y")), (2, 4, ())), (("kept", 0, 5),), BASE, ())
        editor = self.edited((1, 1, ("x",)), (4, 4, ("y",)), (4, 5, ()))
        self.check(editor, (("kept", 0, 1), ("inserted", ("x",)), ("kept", 1, 5)), ("a", "x", "b", "c", "d", "e"),
                   ((1, 1, ("x",)),))
        editor = self.edited((1, 1, ("x",)), (3, 3, ("y",)), (2, 3, ()))
        self.check(editor, (("kept", 0, 1), ("inserted", ("x", "y")), ("kept", 2, 5)),
                   ("a", "x", "y", "c", "d", "e"), ((1, 2, ("x", "y")),))

    def test_edits_at_all_places(self):
        editor = self.edited((0, 1, ("v",)), (2, 2, ("w",)), (4, 5, ()), (5, 5, ("x", "y")))
        self.check(editor, (("inserted", ("v",)), ("kept", 1, 2), ("inserted", ("w",)), ("kept", 2, 3),
                            ("kept", 4, 5), ("inserted", ("x", "y"))), ("v", "b", "w", "c", "e", "x", "y"),
                   ((0, 1, ("v",)), (2, 2, ("w",)), (3, 4, ()), (5, 5, ("x", "y"))))
        self.check(self.edited((0, 2, ())), (("kept", 2, 5),), ("c", "d", "e"), ((0, 2, ()),))
        self.check(self.edited((3, 5, ())), (("kept", 0, 3),), ("a", "b", "c"), ((3, 5, ()),))


class RefusedTest(EditorCase):
    def check_refused(self, editor, error, *given):
        before = (editor.pieces, editor.contents, editor.edits)
        self.assert_raises(error, editor.replace_range, *given)
        self.assertEqual((editor.pieces, editor.contents, editor.edits), before)

    def test_indices_out_of_range(self):
        editor = self.edited((1, 3, ("x",)))
        self.check_refused(editor, IndexOutOfRange(5), 0, 5, ())
        self.check_refused(editor, IndexOutOfRange(5), 5, 5, ("x",))
        self.check_refused(editor, IndexOutOfRange(1000000), 3, 1000000, ())
        self.check_refused(editor, IndexOutOfRange(3), 3, 2, ())
        self.check_refused(editor, IndexOutOfRange(9), 9, 4, ())
        self.check_refused(Editor(()), IndexOutOfRange(1), 0, 1, ())
        self.check_refused(Editor(()), IndexOutOfRange(1), 1, 0, ())

    def test_the_end_comes_first(self):
        editor = self.edited((1, 3, ("x",)))
        self.check_refused(editor, IndexOutOfRange(5), 6, 5, ())
        self.check_refused(editor, IndexOutOfRange(7), 8, 7, ())

    def test_indices_come_before_too_many_elements(self):
        editor = Editor(tuple(range(2000)))
        self.check_refused(editor, IndexOutOfRange(2001), 2001, 2001, (1,))
        self.check_refused(editor, IndexOutOfRange(7), 7, 6, (1,))

    def test_2000_and_2001_elements(self):
        editor = Editor(tuple(range(1999)))
        self.assert_result(2000, editor.replace_range, 5, 5, ("x",))
        self.check(editor, (("kept", 0, 5), ("inserted", ("x",)), ("kept", 5, 1999)),
                   tuple(range(5)) + ("x",) + tuple(range(5, 1999)), ((5, 5, ("x",)),))
        self.check_refused(editor, TooManyElements(2001), 0, 0, ("y",))
        self.check_refused(editor, TooManyElements(2001), 1999, 2000, ("y", "z"))
        self.check_refused(editor, TooManyElements(4000), 7, 7, tuple(range(2000)))
        self.assert_result(2000, editor.replace_range, 0, 2000, tuple(range(2000)))
        self.assert_result(2000, editor.replace_range, 3, 4, ("y",))

    def test_a_refused_replacement_is_not_undone(self):
        editor = Editor(BASE)
        editor.replace_range(0, 1, ())
        for error, given in ((IndexOutOfRange(9), (0, 9, ())), (IndexOutOfRange(2), (2, 1, ())),
                             (TooManyElements(2004), (4, 4, (7,) * 2000))):
            self.check_refused(editor, error, *given)
        self.assertIs(editor.undo(), True)
        self.assertEqual(editor.contents, BASE)
        self.assertIs(editor.undo(), False)

    def test_a_refused_replacement_leaves_the_redoing(self):
        editor = self.edited((0, 1, ()))
        editor.undo()
        for error, given in ((IndexOutOfRange(9), (0, 9, ())), (IndexOutOfRange(2), (2, 1, ())),
                             (TooManyElements(2005), (5, 5, (7,) * 2000))):
            self.check_refused(editor, error, *given)
        self.assertIs(editor.redo(), True)
        self.assertEqual(editor.contents, BASE[1:])


class UndoTest(EditorCase):
    def test_nothing_to_undo_or_redo(self):
        editor = Editor(BASE)
        for _ in range(2):
            self.assertIs(editor.undo(), False)
            self.assertIs(editor.redo(), False)
            self.check(editor, (("kept", 0, 5),), BASE, ())

    def test_down_to_the_base_and_up(self):
        editor = Editor(BASE)
        states = [editor.pieces]
        for start, end, inserted in ((1, 3, ("x",)), (0, 0, ("y", "z")), (4, 5, ()), (2, 2, ()), (0, 4, ("w",)),
                                     (0, 1, ("w",))):
            editor.replace_range(start, end, inserted)
            states.append(editor.pieces)
        for _ in range(3):
            for pieces in states[-2::-1]:
                self.assertIs(editor.undo(), True)
                self.assertEqual(editor.pieces, pieces)
            self.assertIs(editor.undo(), False)
            self.assertEqual(editor.pieces, states[0])
            for pieces in states[1:]:
                self.assertIs(editor.redo(), True)
                self.assertEqual(editor.pieces, pieces)
            self.assertIs(editor.redo(), False)
            self.assertEqual(editor.pieces, states[-1])

    def test_a_replacement_by_which_nothing_changes(self):
        editor = self.edited((0, 1, ("x",)), (3, 3, ()))
        self.assertIs(editor.undo(), True)
        self.assertEqual(editor.contents, ("x", "b", "c", "d", "e"))
        self.assertIs(editor.undo(), True)
        self.assertEqual(editor.contents, BASE)
        editor.replace_range(5, 5, ())
        self.assertIs(editor.redo(), False)
        self.assertIs(editor.undo(), True)
        self.assertIs(editor.undo(), False)
        self.assertIs(editor.redo(), True)
        self.assertIs(editor.redo(), False)
        self.check(editor, (("kept", 0, 5),), BASE, ())

    def test_a_replacement_ends_the_redoing_of_what_was_undone_before(self):
        editor = self.edited((0, 1, ("x",)), (1, 2, ("y",)))
        editor.undo()
        editor.undo()
        editor.replace_range(4, 5, ("z",))
        self.assertIs(editor.redo(), False)
        self.assertEqual(editor.contents, ("a", "b", "c", "d", "z"))
        editor.undo()
        self.assertIs(editor.redo(), True)
        self.assertEqual(editor.contents, ("a", "b", "c", "d", "z"))

    def test_undoing_restores_the_origins(self):
        editor = self.edited((2, 3, ("c",)), (0, 5, BASE))
        editor.undo()
        self.assertEqual(editor.pieces, (("kept", 0, 2), ("inserted", ("c",)), ("kept", 3, 5)))
        editor.undo()
        self.assertEqual(editor.pieces, (("kept", 0, 5),))

    def test_2000_replacements(self):
        editor = Editor(tuple(range(1000)))
        for place in range(2000):
            editor.replace_range(place % 900, place % 900 + 1, (place, -place))
            editor.replace_range(0, 1, ())
        for _ in range(4000):
            self.assertIs(editor.undo(), True)
        self.assertIs(editor.undo(), False)
        self.check(editor, (("kept", 0, 1000),), tuple(range(1000)), ())


class AnyEditorTest(EditorCase):
    def test_against_the_model(self):
        for seed in range(60):
            source = random.Random(seed)
            base = picked(seed % 13, (1, 2, "a", ("a", 1)), seed)
            editor, model = Editor(base), EditorModel(base)
            for _ in range(40):
                word = source.choice(("replace", "replace", "undo", "undo", "redo"))
                if word == "replace":
                    end = source.randint(0, len(model.rows))
                    start = max(0, end - source.choice((0, 0, 1, 1, 2, 5)))
                    inserted = picked(source.choice((0, 0, 1, 1, 2, 4)), (1, 2, "a", ("a", 1)), source.random())
                    self.assertEqual(editor.replace_range(start, end, inserted),
                                     model.replace_range(start, end, inserted))
                elif word == "undo":
                    self.assertIs(editor.undo(), model.move(-1))
                else:
                    self.assertIs(editor.redo(), model.move(1))
                self.check_model(editor, model)

    def test_editors_do_not_touch_each_other(self):
        first, second = Editor(BASE), Editor(BASE)
        first.replace_range(0, 5, ())
        self.check(second, (("kept", 0, 5),), BASE, ())
        self.assertIs(second.undo(), False)


if __name__ == "__main__":
    unittest.main()
