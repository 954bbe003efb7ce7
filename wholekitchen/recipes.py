"""The recipes that are kept, and what they take."""

from wholekitchen.outcomes import changed, refused, told
from wholekitchen.recipe_text import read_recipe, written
from wholekitchen.refusals import IN_USE, NO_RECIPE, NO_ROOM, NOT_THERE, OUT_OF_RANGE
from wholekitchen.signs import bytes_of, text_of
from wholekitchen.state import copy_of, is_for_people, names_of_goods

LONGEST_TEXT = 400


def has_recipe(state, recipe):
    return recipe < len(state.recipes) and state.recipes[recipe] is not None


def is_planned(state, recipe):
    return any([meal.recipe == recipe for meal in state.meals if meal is not None])


def taken(recipe, good, people):
    units = recipe.takes.get(good, 0) * people
    # Rounded up: each begun share is taken whole.
    return (units + recipe.serves - 1) // recipe.serves


def kt_read(state, n, text):
    if n > LONGEST_TEXT:
        return refused(OUT_OF_RANGE)
    recipe = read_recipe(text_of(text[:n]), names_of_goods(state))
    if recipe is None:
        return refused(NO_RECIPE)
    if None not in state.recipes:
        return refused(NO_ROOM)
    place = state.recipes.index(None)
    new = copy_of(state)
    new.recipes[place] = recipe
    return changed(new, [place])


def kt_write(state, recipe):
    if not has_recipe(state, recipe):
        return refused(NOT_THERE)
    row = bytes_of(written(state.recipes[recipe], names_of_goods(state)))
    return told([len(row)] + row + [0] * (LONGEST_TEXT - len(row)))


def kt_drop(state, recipe):
    if not has_recipe(state, recipe):
        return refused(NOT_THERE)
    if is_planned(state, recipe):
        return refused(IN_USE)
    new = copy_of(state)
    new.recipes[recipe] = None
    return changed(new, [0])


def kt_takes(state, recipe, good, people):
    if not has_recipe(state, recipe) or good >= len(state.goods):
        return refused(NOT_THERE)
    if not is_for_people(people):
        return refused(OUT_OF_RANGE)
    return told([taken(state.recipes[recipe], good, people)])
