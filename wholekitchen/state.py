"""What a kitchen holds.

A change never touches the state it starts from: it makes a copy and answers
that, so that an earlier state stays as it was for whoever still holds it.
Lots, recipes and meals are not altered once they are made, only replaced;
goods are counted on, and so each copy of a state has its own.
"""

LAST_DAY = 10000
SLOTS_OF_A_DAY = 288
MOST_PEOPLE = 99
RECIPE_PLACES = 8
MEAL_PLACES = 12

# What a step is done at, in the order in which they are told everywhere.
COOKING_PLACES = ("hob", "oven", "hand")


class Good:
    """A good, and how much of it was ever bought, used and thrown away."""

    def __init__(self, name, price, bought, used, thrown):
        self.name = name
        self.price = price
        self.bought = bought
        self.used = used
        self.thrown = thrown


class Lot:
    """So many units of one good (its number), with a last day."""

    def __init__(self, good, units, last):
        self.good = good
        self.units = units
        self.last = last


class Step:
    """A step of a recipe; after holds the numbers of the steps it comes behind."""

    def __init__(self, name, slots, place, after):
        self.name = name
        self.slots = slots
        self.place = place
        self.after = after


class Recipe:
    """For how many it is, units by the good's number, and steps, as they were told."""

    def __init__(self, serves, takes, steps):
        self.serves = serves
        self.takes = takes
        self.steps = steps


class Meal:
    """A meal that is planned, of the recipe at a place."""

    def __init__(self, day, recipe, people, slot, cooked):
        self.day = day
        self.recipe = recipe
        self.people = people
        self.slot = slot
        self.cooked = cooked


class State:
    """A whole kitchen, empty at first; at a free place of recipes or meals lies None."""

    def __init__(self, hobs, ovens, hands):
        self.hobs = hobs
        self.ovens = ovens
        self.hands = hands
        self.today = 0
        self.goods = []
        self.lots = []
        self.recipes = [None] * RECIPE_PLACES
        self.meals = [None] * MEAL_PLACES


def copy_of_good(good):
    return Good(good.name, good.price, good.bought, good.used, good.thrown)


def copy_of(state):
    """Another state that holds the same, to be changed in its place."""
    new = State(state.hobs, state.ovens, state.hands)
    new.today = state.today
    new.goods = [copy_of_good(good) for good in state.goods]
    new.lots = list(state.lots)
    new.recipes = list(state.recipes)
    new.meals = list(state.meals)
    return new


def names_of_goods(state):
    return [good.name for good in state.goods]


def is_to_come(state, day):
    """Whether it is today or a later day."""
    return state.today <= day <= LAST_DAY


def is_for_people(people):
    return 1 <= people <= MOST_PEOPLE
