"""Points 7 (kt_plan, kt_move, kt_people, kt_unplan) and 8 (kt_meal), and kt_drop of a recipe that some meal has."""

import unittest

from tests.helper import (LARGEST, again, ask, back, buy, cook, day, drop, firsts, good, has, last, lot, meal, move,
                          people, plan, read, start, state, totals, unplan, write)
from wholekitchen.meals import kt_move, kt_plan
from wholekitchen.state import Meal, Recipe, State, Step

TEXT = "serves 2\ntake 10 rice\nstep boil 4 hob\n"
KITCHEN = [start(), good("rice"), read(TEXT), read("serves 1\nstep a 1 hand\n")]
# Today is 2.
LATER = KITCHEN + [day(), day()]
COOKED = LATER + [buy(0, 50, 9), plan(2, 0, 4, 100), plan(3, 1, 5, 200), cook(0)]
DAYS = [(0, -22), (1, -22), (2, 0), (3, 0), (9999, 0), (10000, 0), (10001, -22), (LARGEST, -22)]
SLOTS = [(0, -22), (1, 0), (2, 0), (287, 0), (288, 0), (289, -22), (LARGEST, -22)]
PEOPLE = [(0, -22), (1, 0), (2, 0), (98, 0), (99, 0), (100, -22), (LARGEST, -22)]
NO_MEALS = [2, 11, 12, 13, LARGEST]


def last_day():
    """A kitchen on the last day, which no list of calls comes to."""
    kitchen = State(1, 1, 1)
    kitchen.today = 10000
    kitchen.recipes[0] = Recipe(1, {}, [Step("a", 1, "hob", [])])
    kitchen.meals[0] = Meal(9999, 0, 1, 1, False)
    return kitchen


class Plan(unittest.TestCase):
    def test_ordinary(self):
        seen = ask(*LATER, plan(5, 1, 7, 150), plan(2, 0, 99, 1), meal(0), meal(1), state())
        self.assertEqual(seen[-5:], [[0], [1], [0, 5, 1, 7, 150], [0, 2, 0, 99, 1], [2, 1, 2, 2, 0, 7, 0]])

    def test_days(self):
        for to, due in DAYS:
            with self.subTest(to):
                self.assertEqual(last(*LATER, plan(to)), [due])
                self.assertEqual(last(*LATER, plan(to), meal(0)), [0, to, 0, 1, 288] if due == 0 else [-2])

    def test_today_is_0(self):
        self.assertEqual(last(*KITCHEN, plan(0)), [0])

    def test_on_the_last_day(self):
        self.assertEqual([kt_plan(last_day(), to, 0, 1, 1)[1] for to in (9999, 10000, 10001)], [[-22], [1], [-22]])

    def test_slots(self):
        for slot, due in SLOTS:
            with self.subTest(slot):
                self.assertEqual(last(*LATER, plan(2, 0, 1, slot)), [due])
                self.assertEqual(last(*LATER, plan(2, 0, 1, slot), meal(0)), [0, 2, 0, 1, slot] if due == 0 else [-2])

    def test_people(self):
        for n, due in PEOPLE:
            with self.subTest(n):
                self.assertEqual(last(*LATER, plan(2, 0, n, 9)), [due])
                self.assertEqual(last(*LATER, plan(2, 0, n, 9), meal(0)), [0, 2, 0, n, 9] if due == 0 else [-2])

    def test_no_such_recipe(self):
        for recipe in [2, 7, 8, LARGEST]:
            with self.subTest(recipe):
                self.assertEqual(last(*LATER, plan(2, recipe)), [-2])
        self.assertEqual(last(*LATER, drop(0), plan(2, 0)), [-2])
        self.assertEqual(last(*LATER, drop(0), plan(2, 1)), [0])

    def test_no_place_behind_the_last_recipe(self):
        eight = LATER + [read(TEXT)] * 6
        self.assertEqual(firsts(*eight, plan(2, 7), plan(2, 8))[-2:], [0, -2])

    def test_twelve(self):
        self.assertEqual(firsts(*LATER, *[plan(2)] * 13)[-13:], list(range(12)) + [-28])
        self.assertEqual(ask(*LATER, *[plan(2)] * 13, state())[-1], [2, 1, 2, 12, 0, 17, 0])

    def test_first_that_is_free(self):
        seen = firsts(*LATER, *[plan(2)] * 12, unplan(7), unplan(3), plan(4, 1), plan(5, 1), plan(6, 1))
        self.assertEqual(seen[-5:], [0, 0, 3, 7, -28])
        seen = ask(*LATER, *[plan(2)] * 12, unplan(7), unplan(3), plan(4, 1), meal(3), meal(7), meal(8), meal(11))
        self.assertEqual(seen[-4:], [[0, 4, 1, 1, 288], [-2], [0, 2, 0, 1, 288], [0, 2, 0, 1, 288]])

    def test_first_and_last_place(self):
        self.assertEqual(firsts(*LATER, *[plan(2)] * 12, unplan(0), plan(2), unplan(11), plan(2))[-4:], [0, 0, 0, 11])

    def test_cooked_meals_keep_their_places(self):
        self.assertEqual(last(*COOKED, plan(2)), [2])
        self.assertEqual(last(*COOKED, unplan(0), plan(2)), [0])

    def test_first_told_first(self):
        full = LATER + [plan(2)] * 12
        self.assertEqual(firsts(*full, plan(1, 2, 0, 0), plan(2, 2), plan(1), plan(10001), plan(2, 0, 0),
                                plan(2, 0, 100), plan(2, 0, 1, 0), plan(2, 0, 1, 289), plan(2))[-9:],
                         [-2, -2, -22, -22, -22, -22, -22, -22, -28])
        self.assertEqual(firsts(*LATER, plan(1, 2), plan(2, 8, 100), plan(2, LARGEST, 1, 289))[-3:], [-2, -2, -2])


class Move(unittest.TestCase):
    PLANNED = LATER + [plan(2, 0, 4, 100), plan(3, 1, 5, 200)]

    def test_ordinary(self):
        seen = ask(*self.PLANNED, move(1, 7, 33), meal(0), meal(1))
        self.assertEqual(seen[-3:], [[0], [0, 2, 0, 4, 100], [0, 7, 1, 5, 33]])

    def test_days(self):
        for to, due in DAYS:
            with self.subTest(to):
                seen = ask(*self.PLANNED, move(0, to, 5), meal(0))
                self.assertEqual(seen[-2:], [[due], [0, to, 0, 4, 5] if due == 0 else [0, 2, 0, 4, 100]])

    def test_slots(self):
        for slot, due in SLOTS:
            with self.subTest(slot):
                seen = ask(*self.PLANNED, move(0, 6, slot), meal(0))
                self.assertEqual(seen[-2:], [[due], [0, 6, 0, 4, slot] if due == 0 else [0, 2, 0, 4, 100]])

    def test_on_the_last_day(self):
        self.assertEqual([kt_move(last_day(), 0, to, 1)[1] for to in (9999, 10000, 10001)], [[-22], [0], [-22]])

    def test_a_meal_of_a_day_before_today(self):
        seen = ask(*self.PLANNED, day(), day(), move(0, 2, 100), move(0, 4, 100), meal(0))
        self.assertEqual(seen[-3:], [[-22], [0], [0, 4, 0, 4, 100]])

    def test_no_such_meal(self):
        for which in NO_MEALS:
            with self.subTest(which):
                self.assertEqual(last(*self.PLANNED, move(which, 2, 1)), [-2])
        self.assertEqual(last(*self.PLANNED, unplan(0), move(0, 2, 1)), [-2])

    def test_cooked(self):
        self.assertEqual(ask(*COOKED, move(0, 5, 7), meal(0), move(1, 5, 7))[-3:], [[-17], [1, 2, 0, 4, 100], [0]])

    def test_first_told_first(self):
        self.assertEqual(firsts(*COOKED, move(0, 1, 7), move(0, 2, 0), move(2, 1, 0), move(12, 10001, 289))[-4:],
                         [-17, -17, -2, -2])


class People(unittest.TestCase):
    PLANNED = Move.PLANNED

    def test_ordinary(self):
        seen = ask(*self.PLANNED, people(1, 42), meal(0), meal(1))
        self.assertEqual(seen[-3:], [[0], [0, 2, 0, 4, 100], [0, 3, 1, 42, 200]])

    def test_people(self):
        for n, due in PEOPLE:
            with self.subTest(n):
                seen = ask(*self.PLANNED, people(0, n), meal(0))
                self.assertEqual(seen[-2:], [[due], [0, 2, 0, n if due == 0 else 4, 100]])

    def test_a_meal_of_a_day_before_today(self):
        self.assertEqual(ask(*self.PLANNED, day(), people(0, 9), meal(0))[-2:], [[0], [0, 2, 0, 9, 100]])

    def test_no_such_meal(self):
        for which in NO_MEALS:
            with self.subTest(which):
                self.assertEqual(last(*self.PLANNED, people(which, 1)), [-2])
        self.assertEqual(last(*self.PLANNED, unplan(0), people(0, 1)), [-2])

    def test_cooked(self):
        self.assertEqual(ask(*COOKED, people(0, 5), meal(0), people(1, 6))[-3:], [[-17], [1, 2, 0, 4, 100], [0]])

    def test_first_told_first(self):
        self.assertEqual(firsts(*COOKED, people(0, 0), people(0, 100), people(2, 0), people(12, 100))[-4:],
                         [-17, -17, -2, -2])


class Unplan(unittest.TestCase):
    def test_ordinary(self):
        seen = ask(*Move.PLANNED, unplan(0), meal(0), meal(1), unplan(0), state())
        self.assertEqual(seen[-5:], [[0], [-2], [0, 3, 1, 5, 200], [-2], [2, 1, 2, 1, 0, 8, 0]])

    def test_no_such_meal(self):
        for which in NO_MEALS:
            with self.subTest(which):
                self.assertEqual(ask(*Move.PLANNED, unplan(which), state())[-2:], [[-2], [2, 1, 2, 2, 0, 7, 0]])

    def test_a_meal_of_a_day_before_today(self):
        self.assertEqual(firsts(*Move.PLANNED, day(), unplan(0), meal(0))[-2:], [0, -2])

    def test_cooked_what_it_used_stays_used(self):
        seen = ask(*COOKED, totals(0), has(0), lot(0), unplan(0), meal(0), totals(0), has(0), lot(0))
        self.assertEqual(seen[-8:], [[0, 50, 20, 0, 0], [30], [1, 0, 30, 9], [0], [-2],
                                     [0, 50, 20, 0, 0], [30], [1, 0, 30, 9]])


class Look(unittest.TestCase):
    def test_ordinary(self):
        self.assertEqual(ask(*COOKED, meal(0), meal(1))[-2:], [[1, 2, 0, 4, 100], [0, 3, 1, 5, 200]])

    def test_last_place(self):
        self.assertEqual(ask(*LATER, *[plan(2)] * 11, plan(9, 1, 8, 7), meal(11), meal(12))[-2:],
                         [[0, 9, 1, 8, 7], [-2]])

    def test_no_such_meal(self):
        for which in NO_MEALS:
            with self.subTest(which):
                self.assertEqual(last(*COOKED, meal(which)), [-2])


class Drop(unittest.TestCase):
    def test_planned(self):
        seen = firsts(*LATER, plan(2, 1), drop(0), drop(1), write(1), unplan(0), drop(1), drop(1))
        self.assertEqual(seen[-6:], [0, -16, 23, 0, 0, -2])

    def test_cooked(self):
        self.assertEqual(firsts(*COOKED, unplan(1), drop(0), unplan(0), drop(0))[-3:], [-16, 0, 0])

    def test_of_two_meals_one_left(self):
        self.assertEqual(firsts(*LATER, *[plan(2, 0)] * 12, *[unplan(k) for k in range(11)], drop(0), unplan(11),
                                drop(0))[-3:], [-16, 0, 0])

    def test_of_a_day_before_today(self):
        self.assertEqual(firsts(*LATER, plan(2, 0), day(), drop(0))[-1], -16)

    def test_plan_taken_back(self):
        self.assertEqual(firsts(*LATER, plan(2, 0), back(), drop(0))[-1], 0)
        self.assertEqual(firsts(*LATER, plan(2, 0), back(), again(), drop(0))[-1], -16)


if __name__ == "__main__":
    unittest.main()
