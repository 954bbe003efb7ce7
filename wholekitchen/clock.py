"""A day's clock: when the steps of its meals begin, and what is in use."""

from wholekitchen.meals import has_meal
from wholekitchen.outcomes import refused, told
from wholekitchen.refusals import NOT_LAID, NOT_THERE, OUT_OF_RANGE
from wholekitchen.state import COOKING_PLACES, LAST_DAY, SLOTS_OF_A_DAY


class Clock:
    """What is laid on a day.

    begins has, by the place of a meal and the number of its step, at which slot that step begins;
    in_use has, by the place where steps are done, how many are there, slot by slot.
    """

    def __init__(self):
        self.begins = {}
        self.in_use = {}
        for where in COOKING_PLACES:
            self.in_use[where] = [0] * SLOTS_OF_A_DAY


def copy_of_clock(clock):
    new = Clock()
    new.begins = dict(clock.begins)
    for where in COOKING_PLACES:
        new.in_use[where] = list(clock.in_use[where])
    return new


def room_at(state, where):
    if where == "hob":
        return state.hobs
    if where == "oven":
        return state.ovens
    return state.hands


def latest_begin(in_use, room, slots, end):
    """The latest slot at which so many slots begin that have room, all before the end; None if there is none."""
    free = 0
    for slot in range(end - 1, -1, -1):
        free = free + 1 if in_use[slot] < room else 0
        if free == slots:
            return slot
    return None


def end_of_step(clock, place, steps, number, slot):
    """By when a step of the meal at a place must be done, if the meal must be ready by the slot."""
    behind = [later for later in range(number + 1, len(steps)) if number in steps[later].after]
    return min([slot] + [clock.begins[(place, later)] for later in behind])


def lay_step(clock, place, number, step, begin):
    clock.begins[(place, number)] = begin
    for slot in range(begin, begin + step.slots):
        clock.in_use[step.place][slot] += 1


def clock_with(clock, state, place):
    """The clock with all steps of the meal at a place; the clock as it was if one of them finds no slot."""
    meal = state.meals[place]
    steps = state.recipes[meal.recipe].steps
    new = copy_of_clock(clock)
    for number in range(len(steps) - 1, -1, -1):
        step = steps[number]
        end = end_of_step(new, place, steps, number, meal.slot)
        begin = latest_begin(new.in_use[step.place], room_at(state, step.place), step.slots, end)
        if begin is None:
            return clock
        lay_step(new, place, number, step, begin)
    return new


def clock_of(state, day):
    meals = [(place, meal) for place, meal in enumerate(state.meals) if meal is not None]
    clock = Clock()
    # Pairs are sorted by their slots, of like ones by their places.
    for pair in sorted([(meal.slot, place) for place, meal in meals if meal.day == day]):
        clock = clock_with(clock, state, pair[1])
    return clock


def has_step(state, meal, step):
    return has_meal(state, meal) and step < len(state.recipes[state.meals[meal].recipe].steps)


def kt_when(state, meal, step):
    if not has_step(state, meal, step):
        return refused(NOT_THERE)
    begins = clock_of(state, state.meals[meal].day).begins
    if (meal, step) not in begins:
        return refused(NOT_LAID)
    return told([begins[(meal, step)]])


def kt_busy(state, day, slot):
    if day > LAST_DAY or slot >= SLOTS_OF_A_DAY:
        return refused(OUT_OF_RANGE)
    clock = clock_of(state, day)
    return told([len(clock.begins)] + [clock.in_use[where][slot] for where in COOKING_PLACES])
