"""Recipes as texts: read, and written."""

from wholekitchen.signs import is_name, number_of
from wholekitchen.state import COOKING_PLACES, MOST_PEOPLE, Recipe, Step

MOST_TAKES = 8
MOST_STEPS = 8
MOST_TAKEN = 9999
MOST_SLOTS = 100


def words_of(line):
    return [word for word in line.split(" ") if word != ""]


def read_serves(recipe, words):
    if len(words) != 2 or recipe.serves != 0:
        return False
    recipe.serves = number_of(words[1], MOST_PEOPLE)
    return recipe.serves != 0


def read_take(recipe, words, names):
    if len(words) != 3 or len(recipe.takes) == MOST_TAKES:
        return False
    units = number_of(words[1], MOST_TAKEN)
    if units == 0 or words[2] not in names:
        return False
    good = names.index(words[2])
    if good in recipe.takes:
        return False
    recipe.takes[good] = units
    return True


def is_after(words, steps):
    """Whether the words behind a step's place may stand there: none at all, or steps told before."""
    if not words:
        return True
    named = words[1:]
    if words[0] != "after" or not named or len(set(named)) != len(named):
        return False
    return all([name in steps for name in named])


def read_step(recipe, words):
    if len(words) < 4 or len(recipe.steps) == MOST_STEPS:
        return False
    steps = [step.name for step in recipe.steps]
    slots = number_of(words[2], MOST_SLOTS)
    if not is_name(words[1]) or words[1] in steps or slots == 0 or words[3] not in COOKING_PLACES:
        return False
    if not is_after(words[4:], steps):
        return False
    after = [steps.index(name) for name in words[5:]]
    recipe.steps.append(Step(words[1], slots, words[3], after))
    return True


def read_line(recipe, words, names):
    """Adds to the recipe what a line says; False if no recipe says that there."""
    if words[0] == "serves":
        return read_serves(recipe, words)
    if words[0] == "take":
        return read_take(recipe, words, names)
    if words[0] == "step":
        return read_step(recipe, words)
    return False


def read_recipe(text, names):
    """The recipe that a text tells, with goods of these names; None if it is no recipe."""
    if not text.endswith("\n"):
        return None
    recipe = Recipe(0, {}, [])
    for line in text.split("\n"):
        words = words_of(line)
        if words and not read_line(recipe, words, names):
            return None
    if recipe.serves == 0 or not recipe.steps:
        return None
    return recipe


def words_of_step(step, steps):
    words = ["step", step.name, str(step.slots), step.place]
    if not step.after:
        return words
    return words + ["after"] + [steps[number].name for number in step.after]


def written(recipe, names):
    """The text of a recipe, with goods of these names."""
    lines = [["serves", str(recipe.serves)]]
    for good in recipe.takes:
        lines.append(["take", str(recipe.takes[good]), names[good]])
    for step in recipe.steps:
        lines.append(words_of_step(step, recipe.steps))
    return "".join([" ".join(words) + "\n" for words in lines])
