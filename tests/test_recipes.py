import random
import unittest

from sameshape.errors import InvalidInstruction, RecipeTooLarge, TooManyElements
from sameshape.recipes import recipe_weight, run_recipe
from sameshape.shapes import fresh_nodes
from tests import collections_model as model
from tests.samples import LARGE, MIXED, SMALL
from tests.support import RowCase

EXAMPLE = (("literal", "x"), ("copy", 0, 1, 3), ("concat", (0, 1, 0)), ("repeat", 2, 2))
X = ("literal", "x")
LINE = tuple(range(2000))


def any_instruction(source, place, bases):
    """Some valid instruction at this index."""
    word = source.choice(("literal", "copy", "concat", "repeat"))
    if word == "copy" and bases:
        base = source.randrange(len(bases))
        start = source.randint(0, len(bases[base]))
        return ("copy", base, start, source.randint(start, len(bases[base])))
    if word == "concat" and place:
        return ("concat", tuple(source.randrange(place) for _ in range(source.randint(0, 4))))
    if word == "repeat" and place:
        return ("repeat", source.randrange(place), source.randint(0, 3))
    return ("literal", source.choice(MIXED))


def any_recipe(many, bases, seed):
    """Some recipe, none of whose results is too long."""
    source = random.Random(seed)
    recipe = ()
    while len(recipe) < many:
        longer = recipe + (any_instruction(source, len(recipe), bases),)
        if len(model.recipe_results(longer, bases)[-1]) <= 300:
            recipe = longer
    return recipe


class RunTest(RowCase):
    def test_the_examples(self):
        self.assert_result(("x", 2, 3, "x", "x", 2, 3, "x"), run_recipe, EXAMPLE, bases=((1, 2, 3),))
        self.assert_refused(InvalidInstruction(1), run_recipe, (("literal", 1), ("concat", (0, 1))))
        self.assert_result(("x",), run_recipe, EXAMPLE[:1], bases=((1, 2, 3),))
        self.assert_result((2, 3), run_recipe, EXAMPLE[:2], bases=((1, 2, 3),))
        self.assert_result(("x", 2, 3, "x"), run_recipe, EXAMPLE[:3], bases=((1, 2, 3),))

    def test_an_empty_recipe(self):
        self.assert_result((), run_recipe, ())
        self.assert_result((), run_recipe, (), bases=())
        self.assert_result((), run_recipe, (), bases=((1, 2),))

    def test_each_kind_of_element(self):
        for element in MIXED:
            self.assert_result((element,), run_recipe, (("literal", element),))
            self.assert_result((element,), run_recipe, (("copy", 0, 1, 2),), bases=((5, element, 6),))

    def test_bases_left_out(self):
        self.assert_result(("x", "x"), run_recipe, (X, ("concat", (0, 0))))
        self.assert_refused(InvalidInstruction(0), run_recipe, (("copy", 0, 0, 0),))

    def test_no_elements(self):
        base = ((1, 2, 3),)
        for place in range(4):
            self.assert_result((), run_recipe, (("copy", 0, place, place),), bases=base)
        self.assert_result((), run_recipe, (("copy", 1, 0, 0),), bases=((1,), ()))
        self.assert_result((), run_recipe, (X, ("concat", ())))
        self.assert_result((), run_recipe, (("concat", ()),))
        self.assert_result((), run_recipe, (("concat", ()), ("repeat", 0, 2000), ("concat", (0, 1, 0))))

    def test_repeat(self):
        for times in (0, 1, 2, 3, 2000):
            self.assert_result(("x",) * times, run_recipe, (X, ("repeat", 0, times)))
        self.assert_result((), run_recipe, (X, ("repeat", 0, 0), ("repeat", 1, 2000)))
        self.assert_result((1, 2, 1, 2), run_recipe, (("copy", 0, 0, 2), X, ("repeat", 0, 2)), bases=((1, 2),))

    def test_concat(self):
        recipe = (("literal", 1), ("literal", 2), ("concat", (1, 0)), ("concat", (2, 0, 2)))
        self.assert_result((2, 1, 1, 2, 1), run_recipe, recipe)
        self.assert_result((1,) * 100, run_recipe, (("literal", 1), ("concat", (0,) * 100)))

    def test_the_value_is_the_last_result(self):
        self.assert_result((2,), run_recipe, (("literal", 1), ("repeat", 0, 7), ("literal", 2)))

    def test_equal_bases(self):
        recipe = (("copy", 7, 0, 1), ("copy", 0, 1, 2), ("concat", (1, 0)))
        self.assert_result((2, 1), run_recipe, recipe, bases=((1, 2),) * 8)

    def test_any_recipes(self):
        for seed in range(60):
            bases = tuple(list(SMALL.values())[seed % 20:][:seed % 4])
            recipe = any_recipe(25, bases, seed)
            results = model.recipe_results(recipe, bases)
            for many in range(1, len(recipe) + 1):
                self.assert_result(results[many - 1], run_recipe, recipe[:many], bases=bases)

    def test_5000_instructions(self):
        recipe = tuple(("literal", place) for place in range(4990)) + (("concat", tuple(range(100))),) * 10
        self.assert_result(tuple(range(100)), run_recipe, recipe)
        recipe = (("copy", 0, 0, 20),) + (("concat", (0,)),) * 4999
        self.assert_result(LINE[:20], run_recipe, recipe, bases=(LINE,))
        recipe = (("literal", 1),) + tuple(("concat", (place,) + (0,) * 1) for place in range(600))
        self.assert_result((1,) * 601, run_recipe, recipe)

    def test_the_nodes_that_a_recipe_creates(self):
        for seed in range(40):
            bases = tuple(list(SMALL.values())[seed % 20:][:seed % 4])
            recipe = any_recipe(12, bases, 100 + seed)
            longest = max(len(result) for result in model.recipe_results(recipe, bases))
            most = 20 * (max(longest, 1).bit_length()) * recipe_weight(recipe)
            self.assertLessEqual(len(fresh_nodes(run_recipe(recipe, bases=bases), bases)), most)


class RefusedTest(RowCase):
    bases = ((1, 2, 3), ())

    def check(self, error, *recipe):
        self.assert_refused(error, run_recipe, recipe, bases=self.bases)

    def test_a_base_that_does_not_exist(self):
        self.check(InvalidInstruction(0), ("copy", 2, 0, 0))
        self.check(InvalidInstruction(1), X, ("copy", 1000000, 0, 1))

    def test_an_end_behind_the_base(self):
        self.check(InvalidInstruction(0), ("copy", 0, 0, 4))
        self.check(InvalidInstruction(0), ("copy", 1, 0, 1))
        self.check(InvalidInstruction(0), ("copy", 0, 4, 4))
        self.check(InvalidInstruction(0), ("copy", 0, 0, 1000000))

    def test_a_start_behind_the_end(self):
        self.check(InvalidInstruction(0), ("copy", 0, 2, 1))
        self.check(InvalidInstruction(0), ("copy", 0, 4, 3))

    def test_a_part_that_does_not_come_before(self):
        self.check(InvalidInstruction(0), ("concat", (0,)))
        self.check(InvalidInstruction(1), X, ("concat", (0, 1)))
        self.check(InvalidInstruction(1), X, ("concat", (2, 0)), X)
        self.check(InvalidInstruction(1), X, ("concat", (0, 1000000)))
        self.check(InvalidInstruction(0), ("repeat", 0, 2))
        self.check(InvalidInstruction(1), X, ("repeat", 1, 2))
        self.check(InvalidInstruction(1), X, ("repeat", 1, 0), X)
        self.check(InvalidInstruction(1), X, ("repeat", 2, 1), X)

    def test_the_first_of_several(self):
        self.check(InvalidInstruction(1), X, ("copy", 2, 3, 1), ("concat", (5,)), ("repeat", 9, 2))
        self.check(InvalidInstruction(1), X, ("concat", (5,)), ("copy", 2, 3, 1))
        self.check(InvalidInstruction(2), X, X, ("repeat", 2, 1), ("repeat", 9, 2))

    def test_an_instruction_that_is_not_needed(self):
        self.check(InvalidInstruction(0), ("copy", 0, 0, 4), X)

    def test_2000_elements_and_2001(self):
        self.assert_result(("x",) * 2000, run_recipe, (X, ("repeat", 0, 1000), ("concat", (1, 1))))
        self.check(TooManyElements(2001), X, ("repeat", 0, 1000), ("concat", (1, 0, 1)))
        self.check(TooManyElements(2001), X, ("repeat", 0, 3), ("repeat", 1, 667))
        self.check(TooManyElements(2002), X, ("repeat", 0, 2), ("repeat", 1, 1001))

    def test_far_more_elements(self):
        self.check(TooManyElements(4000000), X, ("repeat", 0, 2000), ("repeat", 1, 2000))
        self.check(TooManyElements(200000), X, ("repeat", 0, 2000), ("concat", (1,) * 100))

    def test_a_result_in_between_is_too_long(self):
        self.check(TooManyElements(2001), X, ("repeat", 0, 667), ("repeat", 1, 3), X)
        self.check(TooManyElements(2001), X, ("repeat", 0, 667), ("repeat", 1, 3), ("repeat", 2, 0))

    def test_200000_elements_together(self):
        recipe = (("copy", 0, 0, 2000),) * 100
        self.assert_result(LINE, run_recipe, recipe, bases=(LINE,))
        self.assert_result((), run_recipe, recipe + (("copy", 0, 0, 0), ("concat", ())), bases=(LINE,))
        self.assert_refused(RecipeTooLarge(100), run_recipe, recipe + (X,), bases=(LINE,))
        self.assert_refused(RecipeTooLarge(101), run_recipe, recipe + (("repeat", 0, 0), X, X), bases=(LINE,))
        self.assert_refused(RecipeTooLarge(100), run_recipe, recipe + (("copy", 0, 0, 2000),) * 9, bases=(LINE,))
        recipe = (X, ("repeat", 0, 1999)) + (("concat", (0, 1)),) * 99
        self.assert_result(("x",) * 2000, run_recipe, recipe)
        self.assert_refused(RecipeTooLarge(101), run_recipe, recipe + (("literal", 1),))

    def test_only_the_elements_that_are_copied_count(self):
        base = LINE[:10]
        bases = (base, base, LINE)
        self.assert_result(LINE[1500:], run_recipe, (("copy", 2, 1500, 2000),), bases=bases)
        recipe = (("copy", 2, 1000, 2000),) * 200
        self.assert_result(LINE[1000:], run_recipe, recipe, bases=bases)
        self.assert_result((), run_recipe, recipe + (("copy", 2, 2000, 2000),), bases=bases)
        self.assert_refused(RecipeTooLarge(200), run_recipe, recipe + (("copy", 2, 1999, 2000),), bases=bases)

    def test_the_order_of_the_three_errors(self):
        full = (("copy", 0, 0, 2000),) * 100
        for bad in (("copy", 0, 0, 2001), ("copy", 1, 0, 0), ("concat", (0, 100)), ("repeat", 100, 2000)):
            self.assert_refused(InvalidInstruction(100), run_recipe, full + (bad,), bases=(LINE,))
        self.assert_refused(TooManyElements(4000), run_recipe, full + (("repeat", 0, 2),), bases=(LINE,))
        self.assert_refused(TooManyElements(6000), run_recipe, full + (("concat", (0, 1, 2)),), bases=(LINE,))

    def test_one_instruction_after_the_other(self):
        bad = ("repeat", 1000, 1)
        full = (("copy", 0, 0, 2000),) * 100
        self.assert_refused(TooManyElements(4000), run_recipe, full[:1] + (("repeat", 0, 2), bad), bases=(LINE,))
        self.assert_refused(InvalidInstruction(1), run_recipe, full[:1] + (bad, ("repeat", 0, 2)), bases=(LINE,))
        self.assert_refused(RecipeTooLarge(100), run_recipe, full + (X, bad, ("repeat", 0, 2)), bases=(LINE,))
        self.assert_refused(InvalidInstruction(99), run_recipe, full[:99] + (bad,) + full, bases=(LINE,))
        self.assert_refused(TooManyElements(4000), run_recipe, full[:99] + (("repeat", 0, 2),) + full, bases=(LINE,))
        self.assert_refused(RecipeTooLarge(100), run_recipe, full + (X, ("repeat", 0, 2)), bases=(LINE,))

    def test_parts_of_a_long_base(self):
        for contents in LARGE.values():
            self.assert_result(contents[5:1990], run_recipe, (("copy", 1, 5, 1990),), bases=((), contents))
            self.assert_refused(TooManyElements(2001), run_recipe,
                                (("copy", 0, 0, 2000), X, ("concat", (0, 1))), bases=(contents,))


class WeightTest(RowCase):
    def test_the_examples(self):
        self.assert_result(9, recipe_weight, (("concat", (7, 7, 7)), ("repeat", 0, 5)))
        self.assert_result(9, recipe_weight, EXAMPLE)

    def test_an_empty_recipe(self):
        self.assert_result(0, recipe_weight, ())

    def test_one_instruction(self):
        self.assert_result(1, recipe_weight, (("literal", ("a", 1)),))
        self.assert_result(1, recipe_weight, (("copy", 0, 0, 2000),))
        self.assert_result(1, recipe_weight, (("copy", 0, 0, 0),))
        for many in (0, 1, 2, 100):
            self.assert_result(many, recipe_weight, (("concat", (0,) * many),))

    def test_repeat(self):
        weights = {0: 2, 1: 2, 2: 4, 3: 4, 4: 6, 5: 6, 7: 6, 8: 8, 1023: 20, 1024: 22, 2000: 22}
        for times, weight in weights.items():
            self.assert_result(weight, recipe_weight, (("repeat", 0, times),))

    def test_instructions_that_are_not_valid(self):
        recipe = (("copy", 1000000, 5, 2), ("concat", (9, 1000000)), ("repeat", 3, 2000), ("repeat", 1000000, 0))
        self.assert_result(1 + 2 + 22 + 2, recipe_weight, recipe)

    def test_5000_instructions(self):
        self.assert_result(500000, recipe_weight, (("concat", (0,) * 100),) * 5000)


if __name__ == "__main__":
    unittest.main()
