"""What lacks so that meals can be cooked, and what it costs."""

from wholekitchen.goods import MOST_GOODS, has_good, lots_without
from wholekitchen.meals import needed
from wholekitchen.outcomes import refused, told
from wholekitchen.refusals import NOT_THERE, OUT_OF_RANGE
from wholekitchen.state import is_to_come

UNITS_OF_A_PRICE = 1000


def is_due(state, meal, day):
    """Whether it is a meal that is still to be cooked, from today to that day."""
    return meal is not None and not meal.cooked and state.today <= meal.day <= day


def meals_due(state, day):
    """By their days, of like ones by their places."""
    order = sorted([(meal.day, place) for place, meal in enumerate(state.meals) if is_due(state, meal, day)])
    return [state.meals[pair[1]] for pair in order]


def lacking(state, good, day):
    """What lacks of a good to a day."""
    # A lot that may be used on a day from today on isn't past its last day today.
    lots = [lot for lot in state.lots if lot.good == good]
    lacks = 0
    for meal in meals_due(state, day):
        found = lots_without(lots, good, needed(state, meal, good), meal.day)
        lots = found[0]
        lacks += found[1]
    return lacks


def lacking_of_each(state, day):
    return [lacking(state, good, day) for good in range(len(state.goods))]


def cost(units, price):
    # Rounded up: a begun cent is paid whole.
    return (units * price + UNITS_OF_A_PRICE - 1) // UNITS_OF_A_PRICE


def kt_lacks(state, good, day):
    if not has_good(state, good):
        return refused(NOT_THERE)
    if not is_to_come(state, day):
        return refused(OUT_OF_RANGE)
    return told([lacking(state, good, day)])


def kt_list(state, day):
    if not is_to_come(state, day):
        return refused(OUT_OF_RANGE)
    lacks = lacking_of_each(state, day)
    count = len([units for units in lacks if units > 0])
    return told([count] + lacks + [0] * (MOST_GOODS - len(lacks)))


def kt_cost(state, day):
    if not is_to_come(state, day):
        return refused(OUT_OF_RANGE)
    lacks = lacking_of_each(state, day)
    return told([0, sum([cost(units, good.price) for units, good in zip(lacks, state.goods)])])
