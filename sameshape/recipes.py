"""Recipes, which make tuples of elements out of given contents."""

from sameshape.errors import InvalidInstruction, RecipeTooLarge
from sameshape.limits import check_count

MOST_TOGETHER = 200000


def is_copy(copy, bases):
    """Return True if a copy names a slice of a base that exists, otherwise False."""
    _, base, start, end = copy
    return base < len(bases) and start <= end and end <= len(bases[base])


def copied(copy, bases):
    """Return the elements that a valid copy names."""
    _, base, start, end = copy
    return bases[base][start:end]


def is_valid(instruction, place, bases):
    """Return True if the instruction at an index is valid, otherwise False."""
    word = instruction[0]
    if word == "copy":
        return is_copy(instruction, bases)
    if word == "concat":
        return all([part < place for part in instruction[1]])
    return word == "literal" or instruction[1] < place


def length_of(instruction, results):
    """Return the length of the result of a valid instruction, given the results of the ones before it."""
    word = instruction[0]
    if word == "copy":
        return instruction[3] - instruction[2]
    if word == "concat":
        return sum([len(results[part]) for part in instruction[1]])
    return 1 if word == "literal" else len(results[instruction[1]]) * instruction[2]


def result_of(instruction, results, bases):
    """Return the result of a valid instruction, given the results of the ones before it."""
    word = instruction[0]
    if word == "copy":
        return copied(instruction, bases)
    if word == "literal":
        return (instruction[1],)
    if word == "repeat":
        return results[instruction[1]] * instruction[2]
    found = []
    for part in instruction[1]:
        found.extend(results[part])
    return tuple(found)


def run_recipe(recipe, *, bases=()):
    """Return the value of a recipe."""
    results = []
    together = 0
    for place, instruction in enumerate(recipe):
        if not is_valid(instruction, place, bases):
            raise InvalidInstruction(place)
        count = length_of(instruction, results)
        check_count(count)
        together = together + count
        if together > MOST_TOGETHER:
            raise RecipeTooLarge(place)
        results.append(result_of(instruction, results, bases))
    return results[-1] if results else ()


def instruction_weight(instruction):
    """Return the weight of an instruction."""
    word = instruction[0]
    if word == "concat":
        return len(instruction[1])
    # The number of bits is log2 + 1, but for 0, whose log2 is 0.
    return 2 * max(1, instruction[2].bit_length()) if word == "repeat" else 1


def recipe_weight(recipe):
    """Return the weight of a recipe."""
    return sum([instruction_weight(instruction) for instruction in recipe])
