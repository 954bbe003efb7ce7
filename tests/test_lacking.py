"""Point 9: kt_lacks, kt_list and kt_cost."""

import unittest

from tests.helper import (LARGEST, ask, buy, cook, cost, day, firsts, good, lacks, last, listed, lot, move, people,
                          plan, price, read, start, state, throw, totals, unplan)
from wholekitchen.lacking import kt_cost, kt_lacks, kt_list
from wholekitchen.state import Good, Lot, Meal, Recipe, State, Step

# Recipe 0 takes 10 rice a head, recipe 1 takes 3 oil for 7, recipe 2 takes some of each of three.
KITCHEN = [start(), good("rice"), good("oil"), good("salt"), read("serves 1\ntake 10 rice\nstep a 1 hob\n"),
           read("serves 7\ntake 3 oil\nstep a 1 hob\n"),
           read("serves 2\ntake 5 rice\ntake 4 oil\ntake 1 salt\nstep a 1 hob\n")]
# Today is 2.
LATER = KITCHEN + [day(), day()]
DAYS = [(0, False), (1, False), (2, True), (3, True), (10000, True), (10001, False), (LARGEST, False)]


def zeros(*first):
    return list(first) + [0] * (16 - len(first))


class Lacks(unittest.TestCase):
    def lacks(self, due, *calls):
        """What lacks of rice to day 9 is this, and it is told so everywhere."""
        seen = ask(*LATER, price(0, 1000), *calls, lacks(0, 9), listed(9), cost(9))
        self.assertEqual(seen[-3], [due])
        self.assertEqual(seen[-2][1], due)
        self.assertEqual(seen[-1], [0, due])

    def test_no_meals(self):
        self.lacks(0)
        self.lacks(0, buy(0, 5, 9))

    def test_no_lots(self):
        self.lacks(20, plan(5, 0, 2))
        self.lacks(30, plan(5, 0, 2), plan(7, 0, 1))

    def test_some_lots(self):
        self.lacks(13, plan(5, 0, 2), buy(0, 7, 9))
        self.lacks(1, plan(5, 0, 2), buy(0, 7, 9), buy(0, 12, 8))
        self.lacks(0, plan(5, 0, 2), buy(0, 7, 9), buy(0, 13, 8))
        self.lacks(0, plan(5, 0, 2), buy(0, 700, 9))

    def test_another_good(self):
        self.lacks(20, plan(5, 0, 2), buy(1, 70, 9))
        self.lacks(0, plan(5, 1, 2))

    def test_rounded_up(self):
        for n, due in [(1, 1), (2, 1), (3, 2), (7, 3), (8, 4), (99, 43)]:
            self.assertEqual(last(*LATER, plan(5, 1, n), lacks(1, 5)), [due])

    def test_rounded_meal_by_meal(self):
        self.assertEqual(last(*LATER, plan(5, 1, 1), plan(5, 1, 1), lacks(1, 5)), [2])

    def test_lots_that_may_be_used_on_the_day(self):
        self.lacks(20, plan(5, 0, 2), buy(0, 50, 4))
        self.lacks(0, plan(5, 0, 2), buy(0, 50, 5))
        self.lacks(0, plan(5, 0, 2), buy(0, 50, 6))

    def test_lots_past_their_last_day_today(self):
        self.lacks(20, buy(0, 50, 2), day(), plan(3, 0, 2))
        self.lacks(0, buy(0, 50, 3), day(), plan(3, 0, 2))
        self.lacks(20, buy(0, 50, 2), buy(0, 50, 3), day(), day(), plan(4, 0, 2))

    def test_lots_behind_the_day(self):
        self.assertEqual(last(*LATER, buy(0, 4, 10000), plan(2, 0, 1), lacks(0, 2)), [6])

    def test_from_the_first_lot_on(self):
        # The first meal empties the lot that the second couldn't use.
        self.lacks(0, buy(0, 10, 9), buy(0, 10, 4), plan(8, 0, 1), plan(4, 0, 1))
        # It goes on with the lot of day 9, where 5 are left for the second.
        self.lacks(5, buy(0, 10, 9), buy(0, 5, 4), plan(4, 0, 1), plan(8, 0, 1))

    def test_by_their_days(self):
        # The meal of day 3, though at a later place, comes first, and takes from the lot of day 4.
        self.lacks(5, buy(0, 5, 4), plan(8, 0, 1), plan(3, 0, 1), buy(0, 10, 8))
        # Whoever comes first of days 3 and 4 takes the lot of day 3: only on day 3 that is of use.
        self.lacks(0, buy(0, 10, 3), buy(0, 10, 4), plan(4, 0, 1), plan(3, 0, 1))

    def test_of_like_days_by_their_places(self):
        # 10 and 20 are needed, 13 are there: all together lacks the same, whoever is first.
        self.lacks(17, buy(0, 13, 6), plan(5, 0, 1), plan(5, 0, 2))
        self.lacks(17, buy(0, 13, 6), plan(5, 0, 2), plan(5, 0, 1))

    def test_what_one_meal_left_the_next_finds(self):
        self.lacks(9, buy(0, 4, 5), buy(0, 12, 6), buy(0, 5, 7), plan(5, 0, 1), plan(6, 0, 1), plan(7, 0, 1))

    def test_meals_before_today(self):
        self.lacks(10, plan(2, 0, 3), plan(3, 0, 1), day())
        self.lacks(40, plan(2, 0, 3), plan(3, 0, 1))
        # What it would have needed is there for others.
        self.lacks(0, buy(0, 10, 9), plan(2, 0, 1), plan(3, 0, 1), day())

    def test_meals_behind_the_day(self):
        self.lacks(30, plan(9, 0, 3))
        self.lacks(0, plan(10, 0, 3))
        self.lacks(30, plan(9, 0, 3), plan(10, 0, 3))
        seen = firsts(*LATER, plan(2, 0, 1), plan(3, 0, 2), plan(5, 0, 4), plan(10000, 0, 8),
                      *[lacks(0, to) for to in (2, 3, 4, 5, 6, 9999, 10000)])
        self.assertEqual(seen[-7:], [10, 30, 30, 70, 70, 70, 150])

    def test_meals_behind_the_day_take_nothing(self):
        self.assertEqual(last(*LATER, buy(0, 10, 9), plan(6, 0, 1), plan(5, 0, 1), lacks(0, 5)), [0])

    def test_cooked_meals(self):
        self.lacks(5, buy(0, 15, 9), plan(2, 0, 1), plan(3, 0, 1), cook(0))
        self.lacks(0, buy(0, 10, 9), plan(2, 0, 1), cook(0))

    def test_unplanned_and_changed_meals(self):
        self.lacks(20, plan(5, 0, 3), plan(5, 0, 2), unplan(0))
        self.lacks(40, plan(5, 0, 3), people(0, 4))
        self.lacks(0, plan(5, 0, 3), move(0, 10, 1))

    def test_nothing_is_taken(self):
        calls = [buy(0, 4, 5), buy(0, 12, 6), plan(5, 0, 1), plan(6, 0, 1)]
        questions = [lacks(0, 9), listed(9), cost(9)]
        looks = [lot(0), lot(1), lot(2), totals(0), state()]
        seen = ask(*LATER, *calls, *questions, *looks, *questions)
        self.assertEqual(seen[-8:-3], ask(*LATER, *calls, *looks)[-5:])
        self.assertEqual(seen[-11:-8], seen[-3:])
        self.assertEqual(seen[-3], [4])

    def test_most(self):
        calls = [start(), good("rice"), read("serves 1\ntake 9999 rice\nstep a 1 hob\n"), price(0, 100000)]
        calls += [plan(k, 0, 99) for k in range(12)]
        self.assertEqual(ask(*calls, lacks(0, 10000), listed(10000), cost(10000))[-3:],
                         [[11878812], [1] + zeros(11878812), [0, 1187881200]])


class LacksRefused(unittest.TestCase):
    def test_days(self):
        for to, may in DAYS:
            with self.subTest(to):
                seen = ask(*LATER, lacks(0, to), listed(to), cost(to))[-3:]
                self.assertEqual(seen, [[0], [0] + [0] * 16, [0, 0]] if may else [[-22], [-22], [-22]])

    def test_on_the_last_day(self):
        kitchen = State(1, 1, 1)
        kitchen.today = 10000
        kitchen.goods.append(Good("rice", 500, 0, 0, 0))
        kitchen.lots.append(Lot(0, 4, 10000))
        kitchen.recipes[0] = Recipe(1, {0: 7}, [Step("a", 1, "hob", [])])
        kitchen.meals[0] = Meal(10000, 0, 1, 1, False)
        self.assertEqual([kt_lacks(kitchen, 0, to)[1] for to in (9999, 10000, 10001)], [[-22], [3], [-22]])
        self.assertEqual([kt_list(kitchen, to)[1] for to in (9999, 10000, 10001)], [[-22], [1] + zeros(3), [-22]])
        self.assertEqual([kt_cost(kitchen, to)[1] for to in (9999, 10000, 10001)], [[-22], [0, 2], [-22]])

    def test_no_such_good(self):
        self.assertEqual(firsts(*LATER, lacks(2, 5), lacks(3, 5), lacks(16, 5), lacks(LARGEST, 5))[-4:], [0, -2, -2, -2])
        self.assertEqual(last(start(), lacks(0, 0)), [-2])

    def test_first_told_first(self):
        self.assertEqual(firsts(*LATER, lacks(3, 1), lacks(3, 10001), lacks(LARGEST, LARGEST))[-3:], [-2, -2, -2])


class List(unittest.TestCase):
    def test_no_goods(self):
        self.assertEqual(last(start(), listed(0)), [0] + zeros())

    def test_each_good(self):
        calls = LATER + [plan(5, 2, 3), plan(4, 1, 7)]
        self.assertEqual(last(*calls, listed(5)), [3] + zeros(8, 9, 2))
        self.assertEqual(last(*calls, listed(4)), [1] + zeros(0, 3))
        self.assertEqual(last(*calls, listed(3)), [0] + zeros())
        self.assertEqual(last(*calls, buy(1, 9, 5), listed(5)), [2] + zeros(8, 0, 2))
        self.assertEqual(last(*calls, buy(1, 8, 5), buy(2, 1, 5), listed(5)), [3] + zeros(8, 1, 1))

    def test_sixteen_goods(self):
        names = "abcdefghijklmnop"
        calls = [start()] + [good(name) for name in names]
        for eight in (names[:8], names[8:]):
            takes = "".join(f"take {names.index(name) + 1} {name}\n" for name in eight)
            calls.append(read("serves 1\n" + takes + "step a 1 hob\n"))
        self.assertEqual(last(*calls, plan(0, 0), plan(0, 1), listed(0)), [16] + list(range(1, 17)))
        self.assertEqual(last(*calls, plan(0, 1), listed(0)), [8] + [0] * 8 + list(range(9, 17)))


class Cost(unittest.TestCase):
    def test_no_price(self):
        self.assertEqual(last(*LATER, plan(5, 0, 99), cost(5)), [0, 0])

    def test_nothing_lacks(self):
        self.assertEqual(last(*LATER, price(0, 99), cost(5)), [0, 0])
        self.assertEqual(last(*LATER, price(0, 99), plan(5, 0), buy(0, 10, 5), cost(5)), [0, 0])

    def test_rounded_up(self):
        for cents, due in [(1, 1), (99, 1), (100, 1), (101, 2), (199, 2), (200, 2), (201, 3), (100000, 1000)]:
            with self.subTest(cents):
                self.assertEqual(last(*LATER, price(0, cents), plan(5, 0, 1), cost(5)), [0, due])

    def test_rounded_up_of_one_unit(self):
        for cents, due in [(0, 0), (1, 1), (999, 1), (1000, 1), (1001, 2), (1999, 2), (2000, 2), (2001, 3)]:
            with self.subTest(cents):
                self.assertEqual(last(*LATER, price(1, cents), plan(5, 1, 1), cost(5)), [0, due])

    def test_rounded_good_by_good(self):
        # 8 rice, 9 oil and 2 salt lack.
        calls = LATER + [plan(5, 2, 3), plan(4, 1, 7)]
        self.assertEqual(last(*calls, price(0, 1), price(1, 1), price(2, 1), cost(5)), [0, 3])
        self.assertEqual(last(*calls, price(0, 125), price(1, 112), price(2, 501), cost(5)), [0, 1 + 2 + 2])
        self.assertEqual(last(*calls, price(0, 1000), price(1, 2000), price(2, 3000), cost(5)), [0, 8 + 18 + 6])

    def test_not_rounded_meal_by_meal(self):
        self.assertEqual(last(*LATER, price(0, 10), plan(5, 0, 1), plan(5, 0, 1), plan(5, 0, 1), cost(5)), [0, 1])

    def test_to_the_day(self):
        calls = LATER + [price(0, 1000), plan(3, 0, 1), plan(5, 0, 2)]
        self.assertEqual(ask(*calls, cost(2), cost(3), cost(4), cost(5))[-4:], [[0, 0], [0, 10], [0, 10], [0, 30]])

    def test_thrown_away(self):
        calls = LATER + [price(0, 1000), buy(0, 10, 2), plan(3, 0, 1), day()]
        self.assertEqual(ask(*calls, cost(3), throw(), cost(3))[-3:], [[0, 10], [1], [0, 10]])


if __name__ == "__main__":
    unittest.main()
