import unittest

from sameshape.finding import find_archive, find_recipe
from sameshape.recipes import recipe_weight, run_recipe
from tests import collections_model as model
from tests.samples import LARGE, SMALL, picked
from tests.support import RowCase

BASE = (1, 2, 3, 4, 5, 6)
RUNS = ("x", "y", "y", "y", "x", "y", "y", "y")


class RecipeTest(RowCase):
    def test_the_examples(self):
        expected = (("copy", 0, 0, 2), ("literal", 7), ("copy", 0, 3, 4), ("concat", (1, 2)), ("copy", 0, 4, 6),
                    ("concat", (0, 3, 4)))
        self.assert_result(expected, find_recipe, (1, 2, 7, 4, 5, 6), bases=(BASE,))
        self.assertEqual(recipe_weight(expected), 9)
        expected = (("literal", "x"), ("literal", "y"), ("repeat", 1, 3), ("concat", (0, 2)), ("repeat", 3, 2))
        self.assert_result(expected, find_recipe, RUNS)
        self.assert_result((("copy", 1, 0, 2),), find_recipe, (1, 2), bases=((5, 1), (1, 2)))

    def test_no_elements(self):
        self.assert_result((), find_recipe, ())
        self.assert_result((), find_recipe, (), bases=(BASE, ()))
        self.assert_result((), find_recipe, (), bases=())

    def test_one_element(self):
        for element in (5, "", ("a", 1)):
            self.assert_result((("literal", element),), find_recipe, (element,))
            self.assert_result((("copy", 1, 2, 3),), find_recipe, (element,), bases=((), (7, 8, element, element)))

    def test_an_empty_base(self):
        self.assert_result((("literal", 1), ("literal", 2), ("concat", (0, 1))), find_recipe, (1, 2), bases=((),))
        self.assert_result((("copy", 1, 0, 2),), find_recipe, (1, 2), bases=((), (1, 2), ()))

    def test_a_base_that_is_equal_to_the_contents(self):
        for contents in SMALL.values():
            if contents:
                copy = ("copy", 2, 0, len(contents))
                self.assert_result((copy,), find_recipe, contents, bases=((), ("!", "?"), contents, contents))

    def test_a_part_of_the_contents(self):
        self.assert_result((("copy", 0, 0, 2), ("literal", 3), ("literal", 4), ("concat", (1, 2)), ("literal", 5),
                            ("literal", 6), ("concat", (4, 5)), ("concat", (0, 3, 6))), find_recipe, BASE,
                           bases=((1, 2),))

    def test_a_node_in_several_bases(self):
        self.assert_result((("copy", 1, 2, 4),), find_recipe, (3, 4), bases=((5, 6), BASE, (3, 4), BASE))
        self.assert_result((("copy", 0, 0, 2),), find_recipe, (3, 4), bases=((3, 4), BASE))

    def test_a_node_several_times_in_a_base(self):
        self.assert_result((("copy", 0, 1, 2),), find_recipe, (9,), bases=((5, 9, 6, 9, 9, 7, 9),))
        self.assert_result((("copy", 0, 3, 5),), find_recipe, (9, 9), bases=((5, 9, 6, 9, 9, 7, 9, 9),))

    def test_a_node_several_times_in_the_contents(self):
        recipe = find_recipe(("to", "be", "or", "not", "to", "be"))
        self.assertEqual(recipe, (("literal", "to"), ("literal", "be"), ("concat", (0, 1)), ("literal", "or"),
                                  ("literal", "not"), ("concat", (3, 4, 0, 1)), ("concat", (2, 5))))

    def test_a_node_below_a_run_of_a_base(self):
        bases = (("a",), RUNS)
        self.assert_result((("copy", 1, 0, 4),), find_recipe, RUNS[:4], bases=bases)
        self.assert_result((("copy", 1, 1, 4),), find_recipe, ("y", "y", "y"), bases=bases)
        self.assert_result((("copy", 1, 1, 2),), find_recipe, ("y",), bases=bases)
        self.assert_result((("copy", 1, 1, 2), ("repeat", 0, 2)), find_recipe, ("y", "y"), bases=bases)
        self.assert_result((("copy", 1, 0, 4), ("repeat", 0, 3)), find_recipe, RUNS[:4] * 3, bases=bases)

    def test_the_first_base_counts_even_if_another_one_has_a_greater_place(self):
        bases = (RUNS, RUNS[:4], ("y", "y", "y"), ("y",))
        self.assert_result((("copy", 0, 1, 4),), find_recipe, ("y", "y", "y"), bases=bases)
        self.assert_result((("copy", 0, 0, 3),), find_recipe, ("y", "y", "y"), bases=bases[::-1][1:])

    def test_equal_elements_among_other_nodes(self):
        self.assert_result((("copy", 0, 1, 2), ("copy", 0, 2, 3), ("concat", (0, 1))), find_recipe, (2, 3),
                           bases=(BASE,))
        self.assert_result((("copy", 0, 0, 1), ("repeat", 0, 2)), find_recipe, (1, 1), bases=((1, 1, 1),))

    def test_the_children_of_a_copied_node_are_not_visited(self):
        self.assert_result((("copy", 0, 0, 6),), find_recipe, BASE, bases=(BASE, (1,), (2, 1)))

    def test_small_contents(self):
        bases = (SMALL["two values"], (), SMALL["ascending"], SMALL["ascending"], SMALL["mixed"], SMALL["stretches"],
                 SMALL["a part that is repeated"], SMALL["words"])
        for name, contents in SMALL.items():
            for many in (0, 1, 5, 8):
                with self.subTest(name, many=many):
                    self.check(contents, bases[:many])

    def check(self, contents, bases):
        expected = model.found_recipe(contents, bases)
        self.assert_result(expected, find_recipe, contents, bases=bases)
        self.assertEqual(run_recipe(expected, bases=bases), contents)

    def test_changed_copies(self):
        for seed in range(40):
            base = picked(40, (0, 1, "a", ("a", 1)), seed)
            other = picked(9, (0, 1, "a", ("a", 1)), 50 + seed)
            self.check(base[:15] + other + base[20:], (other, base))
            self.check(other * 3 + base[:9] * 3, (base[:9] * 2, base))
            self.check(base[::-1], (base, other))

    def test_2000_elements(self):
        for name, contents in LARGE.items():
            with self.subTest(name):
                changed = contents[:700] + ("!", "?") + contents[702:]
                bases = ((), contents[1:], contents, contents[:1500])
                recipe = find_recipe(changed, bases=bases)
                self.assert_rows(recipe)
                self.assertEqual(run_recipe(recipe, bases=bases), changed)
                self.assertLess(recipe_weight(recipe), 100)
                recipe = find_recipe(contents)
                self.assert_rows(recipe)
                self.assertEqual(run_recipe(recipe), contents)

    def test_eight_bases_of_2000_elements(self):
        bases = tuple(LARGE.values()) + (LARGE["all different"][::-1], LARGE["two values"][::-1])
        for contents in bases:
            number = bases.index(contents)
            self.assert_result((("copy", number, 0, 2000),), find_recipe, contents, bases=bases)


class ArchiveTest(RowCase):
    def test_the_examples(self):
        recipe = (("literal", 1), ("literal", 2), ("concat", (0, 1)), ("repeat", 1, 2), ("concat", (0, 3)))
        self.assert_result((recipe, (2, 4, None)), find_archive, ((1, 2), (1, 2, 2), ()))

    def test_no_contents(self):
        self.assert_result(((), ()), find_archive, ())

    def test_empty_contents(self):
        self.assert_result(((), (None,)), find_archive, ((),))
        self.assert_result(((), (None, None)), find_archive, ((), ()))
        self.assert_result(((("literal", 5),), (None, 0, None)), find_archive, ((), (5,), ()))

    def test_the_same_contents_twice(self):
        recipe = (("literal", 1), ("literal", 2), ("concat", (0, 1)))
        self.assert_result((recipe, (2, 2)), find_archive, ((1, 2), (1, 2)))
        self.assert_result((recipe + (("literal", 3),), (2, 3, 2)), find_archive, ((1, 2), (3,), (1, 2)))
        self.assert_result((recipe, (2,) * 8), find_archive, ((1, 2),) * 8)

    def test_a_root_that_is_a_node_of_other_contents(self):
        recipe = (("literal", 1), ("literal", 2), ("concat", (0, 1)))
        self.assert_result((recipe, (2, 1, 0)), find_archive, ((1, 2), (2,), (1,)))
        self.assert_result(((("literal", 2), ("literal", 1), ("concat", (1, 0))), (0, 2)), find_archive,
                           ((2,), (1, 2)))

    def test_one_of_them_alone_is_its_recipe(self):
        for contents in SMALL.values():
            recipe, places = find_archive((contents,))
            self.assertEqual(recipe, find_recipe(contents))
            self.assertEqual(places, (len(recipe) - 1,) if contents else (None,))

    def check(self, many):
        expected = model.archive(many)
        self.assert_result(expected, find_archive, many)
        recipe, places = expected
        for contents, place in zip(many, places):
            self.assertEqual(run_recipe(recipe[:place + 1]) if contents else (), contents)

    def test_contents_that_share_nodes(self):
        names = list(SMALL)
        for start in range(0, len(names), 2):
            many = tuple(SMALL[name] for name in (names + names)[start:start + 7])
            self.check(many + many[:1])
        contents = SMALL["ascending"]
        self.check((contents, contents[:30] + (0,) + contents[30:], contents[5:], contents[:-5], contents * 2))

    def test_2000_elements(self):
        contents = LARGE["all different"]
        many = (contents, contents[:1000] + (-1,) + contents[1001:], contents[1:], contents, ())
        recipe, places = find_archive(many)
        self.assert_rows((recipe, places))
        self.assertEqual(places[0], places[3])
        self.assertIsNone(places[4])
        self.assertLess(len(recipe), places[0] + 100)
        for one, place in zip(many[:4], places):
            self.assertEqual(run_recipe(recipe[:place + 1]), one)

    def test_more_than_5000_instructions(self):
        many = tuple(tuple(range(place, place + 2000)) for place in range(0, 16000, 2000))
        recipe, places = find_archive(many)
        self.assert_rows((recipe, places))
        self.assertGreater(len(recipe), 16000)
        self.assertEqual(places[7], len(recipe) - 1)
        self.assertEqual(run_recipe(recipe[:places[0] + 1]), many[0])
        self.assertEqual([instruction for instruction in recipe if instruction[0] == "literal"],
                         [("literal", element) for contents in many for element in contents])


if __name__ == "__main__":
    unittest.main()
