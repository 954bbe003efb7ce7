"""Point 10: kt_cook."""

import unittest

from tests.helper import (LARGEST, ask, buy, cook, day, firsts, good, has, last, lot, meal, move, plan, read, start,
                          state, totals, unplan)
from wholekitchen.cooking import kt_cook
from wholekitchen.state import Meal, Recipe, State, Step

KITCHEN = [start(), good("rice"), good("oil"), good("salt"), read("serves 1\ntake 10 rice\nstep a 1 hob\n"),
           read("serves 2\ntake 5 oil\ntake 4 rice\nstep a 1 hob\n"), read("serves 1\nstep a 1 hob\n")]
# Today is 2.
LATER = KITCHEN + [day(), day()]
LOTS = [lot(k) for k in range(6)]


def lots(seen):
    """The lots that were answered to LOTS."""
    return [tuple(part[1:]) for part in seen[-len(LOTS):] if part != [-2]]


class Cook(unittest.TestCase):
    def test_ordinary(self):
        seen = ask(*LATER, buy(0, 50, 9), plan(2, 0, 3, 77), cook(0), meal(0), has(0), totals(0), *LOTS)
        self.assertEqual(seen[-10:-6], [[1], [1, 2, 0, 3, 77], [20], [0, 50, 30, 0, 0]])
        self.assertEqual(lots(seen), [(0, 20, 9)])

    def test_all_of_a_lot(self):
        seen = ask(*LATER, buy(0, 30, 9), plan(2, 0, 3), cook(0), meal(0), totals(0), *LOTS)
        self.assertEqual(seen[-9:-6], [[0], [1, 2, 0, 3, 288], [0, 30, 30, 0, 0]])
        self.assertEqual(lots(seen), [])

    def test_from_the_first_lots_on(self):
        calls = LATER + [buy(0, 20, 9), buy(0, 7, 4), buy(0, 8, 4), buy(1, 5, 3), buy(0, 4, 2)]
        seen = ask(*calls, plan(2, 0, 1), cook(0), *LOTS)
        self.assertEqual(seen[-7], [4])
        self.assertEqual(lots(seen), [(1, 5, 3), (0, 1, 4), (0, 8, 4), (0, 20, 9)])
        seen = ask(*calls, plan(2, 0, 2), cook(0), *LOTS)
        self.assertEqual(seen[-7], [2])
        self.assertEqual(lots(seen), [(1, 5, 3), (0, 19, 9)])

    def test_just_two_lots(self):
        seen = ask(*LATER, buy(0, 4, 9), buy(0, 6, 5), buy(0, 1, 9), plan(2, 0, 1), cook(0), *LOTS)
        self.assertEqual((seen[-7], lots(seen)), ([1], [(0, 1, 9)]))

    def test_several_goods(self):
        seen = ask(*LATER, buy(0, 9, 5), buy(1, 9, 6), buy(2, 9, 7), plan(2, 1, 3), cook(0), totals(0), totals(1),
                   totals(2), *LOTS)
        self.assertEqual(seen[-10:-6], [[3], [0, 9, 6, 0, 0], [0, 9, 8, 0, 0], [0, 9, 0, 0, 0]])
        self.assertEqual(lots(seen), [(0, 3, 5), (1, 1, 6), (2, 9, 7)])

    def test_lots_past_their_last_day_stay(self):
        calls = LATER + [buy(0, 20, 2), buy(0, 20, 3), buy(0, 3, 5), day()]
        seen = ask(*calls, plan(3, 0, 2), cook(0), *LOTS)
        self.assertEqual((seen[-7], lots(seen)), ([2], [(0, 20, 2), (0, 3, 5)]))
        seen = ask(*calls, day(), plan(4, 0, 1), cook(0), *LOTS)
        self.assertEqual((seen[-7], lots(seen)), ([-61], [(0, 20, 2), (0, 20, 3), (0, 3, 5)]))

    def test_on_a_lots_last_day(self):
        self.assertEqual(last(*LATER, buy(0, 10, 2), plan(2), cook(0)), [0])

    def test_not_enough(self):
        self.assertEqual(firsts(*LATER, plan(2), cook(0), buy(0, 9, 5), cook(0), buy(0, 1, 5), cook(0))[-5:],
                         [-61, 9, -61, 10, 0])

    def test_not_enough_changes_nothing(self):
        questions = [totals(0), totals(1), totals(2), has(0), has(1), meal(0), state()] + LOTS
        for few in [[buy(0, 5, 5), buy(1, 99, 6)], [buy(0, 99, 5), buy(1, 7, 6)], [buy(0, 99, 5)], [buy(1, 99, 5)],
                    [buy(0, 3, 3), buy(0, 2, 5), buy(1, 4, 6), buy(1, 4, 6)]]:
            with self.subTest(few):
                calls = LATER + few + [plan(2, 1, 3)]
                seen = ask(*calls, cook(0), *questions)
                self.assertEqual(seen[len(calls)], [-61])
                self.assertEqual(seen[len(calls) + 1:], ask(*calls, *questions)[len(calls):])

    def test_needs_nothing(self):
        self.assertEqual(firsts(*LATER, plan(2, 2), cook(0), meal(0))[-2:], [0, 1])
        self.assertEqual(firsts(*LATER, buy(0, 1, 2), buy(0, 1, 3), plan(2, 2), cook(0), meal(0))[-2:], [2, 1])

    def test_rounded_up(self):
        self.assertEqual(ask(*LATER, buy(0, 9, 9), buy(1, 9, 9), plan(2, 1, 1), cook(0), totals(0), totals(1))[-2:],
                         [[0, 9, 2, 0, 0], [0, 9, 3, 0, 0]])

    def test_one_after_another(self):
        calls = LATER + [buy(0, 30, 9), plan(2), plan(2), plan(2), plan(2)]
        self.assertEqual(firsts(*calls, cook(2), cook(0), cook(3), cook(1))[-4:], [1, 1, 0, -61])
        self.assertEqual(firsts(*calls, cook(2), cook(0), cook(3), meal(0), meal(1), meal(2), meal(3))[-4:], [1, 0, 1, 1])

    def test_most(self):
        calls = [start(), good("rice"), read("serves 1\ntake 9999 rice\nstep a 1 hob\n"), buy(0, 989901, 0), plan(0, 0, 99)]
        self.assertEqual(ask(*calls, cook(0), totals(0))[-2:], [[0], [0, 989901, 989901, 0, 0]])
        calls[3] = buy(0, 989900, 0)
        self.assertEqual(ask(*calls, cook(0), totals(0))[-2:], [[-61], [0, 989900, 0, 0, 0]])

    def test_last_place(self):
        self.assertEqual(firsts(*LATER, *[plan(2, 2)] * 12, cook(11), meal(11), meal(10), cook(12))[-4:], [0, 1, 0, -2])


class CookRefused(unittest.TestCase):
    CALLS = LATER + [buy(0, 15, 9), plan(2, 0), plan(3, 0)]

    def test_no_such_meal(self):
        for which in [2, 11, 12, LARGEST]:
            with self.subTest(which):
                self.assertEqual(last(*self.CALLS, cook(which)), [-2])
        self.assertEqual(last(*self.CALLS, unplan(0), cook(0)), [-2])

    def test_cooked(self):
        self.assertEqual(ask(*self.CALLS, buy(0, 50, 9), cook(0), cook(0), totals(0))[-2:], [[-17], [0, 65, 10, 0, 0]])

    def test_another_day(self):
        self.assertEqual(firsts(*self.CALLS, cook(1), day(), cook(1), cook(0))[-4:], [-16, 3, 1, -16])
        self.assertEqual(ask(*self.CALLS, cook(1), meal(1), totals(0))[-2:], [[0, 3, 0, 1, 288], [0, 15, 0, 0, 0]])
        self.assertEqual(firsts(*self.CALLS, day(), cook(0), move(0, 3, 1), cook(0))[-3:], [-16, 0, 1])

    def test_first_told_first(self):
        # Cooked, and its day is past; another day, and not enough; cooked, and not enough.
        self.assertEqual(firsts(*self.CALLS, cook(0), day(), cook(0))[-1], -17)
        self.assertEqual(firsts(*self.CALLS, cook(0), cook(1))[-1], -16)
        self.assertEqual(firsts(*self.CALLS, cook(0), cook(0))[-1], -17)

    def test_on_the_last_day(self):
        kitchen = State(1, 1, 1)
        kitchen.today = 10000
        kitchen.recipes[0] = Recipe(1, {}, [Step("a", 1, "hob", [])])
        kitchen.meals[0] = Meal(10000, 0, 1, 1, False)
        new, numbers = kt_cook(kitchen, 0)
        self.assertEqual((new.meals[0].cooked, numbers), (True, [0]))


if __name__ == "__main__":
    unittest.main()
