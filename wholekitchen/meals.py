"""The meals that are planned, and what they need."""

from wholekitchen.outcomes import changed, refused, told
from wholekitchen.recipes import has_recipe, taken
from wholekitchen.refusals import ALREADY_SO, NO_ROOM, NOT_THERE, OUT_OF_RANGE
from wholekitchen.state import SLOTS_OF_A_DAY, Meal, copy_of, is_for_people, is_to_come


def has_meal(state, meal):
    return meal < len(state.meals) and state.meals[meal] is not None


def needed(state, meal, good):
    """How much of a good a meal needs."""
    return taken(state.recipes[meal.recipe], good, meal.people)


def can_be_planned(state, day, slot):
    return is_to_come(state, day) and 1 <= slot <= SLOTS_OF_A_DAY


def with_meal(state, place, meal):
    """A copy of the state that has this meal, or None, at a place."""
    new = copy_of(state)
    new.meals[place] = meal
    return new


def refusal_to_alter(state, meal):
    """Why a meal can't be altered; None if it can."""
    if not has_meal(state, meal):
        return NOT_THERE
    if state.meals[meal].cooked:
        return ALREADY_SO
    return None


def kt_plan(state, day, recipe, people, slot):
    if not has_recipe(state, recipe):
        return refused(NOT_THERE)
    if not can_be_planned(state, day, slot) or not is_for_people(people):
        return refused(OUT_OF_RANGE)
    if None not in state.meals:
        return refused(NO_ROOM)
    place = state.meals.index(None)
    return changed(with_meal(state, place, Meal(day, recipe, people, slot, False)), [place])


def kt_move(state, meal, day, slot):
    refusal = refusal_to_alter(state, meal)
    if refusal is not None:
        return refused(refusal)
    if not can_be_planned(state, day, slot):
        return refused(OUT_OF_RANGE)
    old = state.meals[meal]
    return changed(with_meal(state, meal, Meal(day, old.recipe, old.people, slot, False)), [0])


def kt_people(state, meal, n):
    refusal = refusal_to_alter(state, meal)
    if refusal is not None:
        return refused(refusal)
    if not is_for_people(n):
        return refused(OUT_OF_RANGE)
    old = state.meals[meal]
    return changed(with_meal(state, meal, Meal(old.day, old.recipe, n, old.slot, False)), [0])


def kt_unplan(state, meal):
    if not has_meal(state, meal):
        return refused(NOT_THERE)
    return changed(with_meal(state, meal, None), [0])


def kt_meal(state, meal):
    if not has_meal(state, meal):
        return refused(NOT_THERE)
    which = state.meals[meal]
    cooked = 1 if which.cooked else 0
    return told([cooked, which.day, which.recipe, which.people, which.slot])
