"""Meals are cooked."""

from wholekitchen.goods import lots_without
from wholekitchen.meals import needed, refusal_to_alter, with_meal
from wholekitchen.outcomes import changed, refused
from wholekitchen.refusals import NOT_ENOUGH, NOT_TODAY
from wholekitchen.state import Meal


def cooked(meal):
    return Meal(meal.day, meal.recipe, meal.people, meal.slot, True)


def kt_cook(state, meal):
    refusal = refusal_to_alter(state, meal)
    if refusal is not None:
        return refused(refusal)
    which = state.meals[meal]
    if which.day != state.today:
        return refused(NOT_TODAY)
    new = with_meal(state, meal, cooked(which))
    for good in range(len(state.goods)):
        units = needed(state, which, good)
        found = lots_without(new.lots, good, units, state.today)
        if found[1] > 0:
            return refused(NOT_ENOUGH)
        new.lots = found[0]
        new.goods[good].used += units
    return changed(new, [len(new.lots)])
