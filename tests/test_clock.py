"""Point 11: kt_when and kt_busy."""

import unittest

from tests.helper import (LARGEST, again, ask, back, busy, buy, cook, day, equip, firsts, good, last, meal, move,
                          people, plan, read, start, state, unplan, when)

DINNER = ("serves 4\nstep wash 1 hand\nstep boil 4 hob after wash\nstep bake 12 oven\n"
          "step lay 2 hand after bake boil\n")


def steps(*lines):
    return read("serves 1\n" + "".join(f"step {line}\n" for line in lines))


def whens(which, count):
    return [when(which, number) for number in range(count)]


class ClockCase(unittest.TestCase):
    def begin(self, due, *calls):
        """The steps of meals 0, 1 .. begin so behind these calls."""
        questions = [when(which, number) for which, begins in enumerate(due) for number in range(len(begins))]
        seen = firsts(*calls, *questions)[len(calls):]
        self.assertEqual(seen, [begin for begins in due for begin in begins])


class OneMeal(ClockCase):
    def test_ordinary(self):
        self.begin([[93, 94, 86, 98]], start(2, 1, 1), read(DINNER), plan(0, 0, 1, 100))

    def test_by_the_slot(self):
        for slot, due in [(1, 0), (2, 1), (3, 2), (287, 286), (288, 287)]:
            with self.subTest(slot):
                self.begin([[due]], start(), steps("a 1 hob"), plan(0, 0, 1, slot))

    def test_from_0_on(self):
        for slots in (1, 2, 99, 100):
            with self.subTest(slots):
                calls = [start(), steps(f"a {slots} hob")]
                self.begin([[0]], *calls, plan(0, 0, 1, slots))
                self.begin([[1]], *calls, plan(0, 0, 1, slots + 1))
                if slots > 1:
                    self.begin([[-33]], *calls, plan(0, 0, 1, slots - 1))

    def test_longest(self):
        self.begin([[188]], start(), steps("a 100 oven"), plan(0))
        self.begin([[0, 88, 188]], start(), steps("a 88 oven", "b 100 oven after a", "c 100 hob after b"), plan(0))
        self.begin([[-33] * 3], start(), steps("a 89 oven", "b 100 oven after a", "c 100 hob after b"), plan(0))

    def test_from_the_last_told_to_the_first(self):
        self.begin([[5, 7]], start(1, 1, 1), steps("a 2 hand", "b 3 hand"), plan(0, 0, 1, 10))
        self.begin([[5, 8]], start(1, 1, 1), steps("a 3 hand", "b 2 hand"), plan(0, 0, 1, 10))
        self.begin([[4, 6, 9]], start(1, 1, 1), steps("a 2 hand", "b 3 hand", "c 1 hand"), plan(0, 0, 1, 10))

    def test_no_more_than_there_are(self):
        eight = steps(*[f"{name} 10 hob" for name in "abcdefgh"])
        self.begin([[20, 30, 40, 50, 60, 70, 80, 90]], start(1, 0, 1), eight, plan(0, 0, 1, 100))
        self.begin([[70, 70, 80, 80, 80, 90, 90, 90]], start(3, 0, 1), eight, plan(0, 0, 1, 100))
        self.begin([[80, 80, 90, 90, 90, 90, 90, 90]], start(6, 0, 1), eight, plan(0, 0, 1, 100))
        self.begin([[0, 10, 20, 30, 40, 50, 60, 70]], start(1, 0, 1), eight, plan(0, 0, 1, 80))
        self.begin([[-33] * 8], start(1, 0, 1), eight, plan(0, 0, 1, 79))

    def test_each_place_by_itself(self):
        three = steps("a 4 hob", "b 4 oven", "c 4 hand", "d 4 hob", "e 4 oven", "f 4 hand")
        self.begin([[6, 2, 6, 6, 6, 6]], start(2, 1, 2), three, plan(0, 0, 1, 10))
        self.begin([[2, 6, 6, 6, 6, 6]], start(1, 2, 3), three, plan(0, 0, 1, 10))
        self.begin([[6, 6, 2, 6, 6, 6]], start(6, 4, 1), three, plan(0, 0, 1, 10))
        self.begin([[2, 2, 2, 6, 6, 6]], start(1, 1, 1), three, plan(0, 0, 1, 10))

    def test_behind_each_other(self):
        self.begin([[4, 5, 7]], start(), steps("a 1 hob", "b 2 oven after a", "c 3 hand after b"), plan(0, 0, 1, 10))
        # Behind two: by the one that begins first, whichever of them was told first.
        self.begin([[3, 5, 9]], start(3, 1, 1), steps("a 2 hand", "b 5 hob after a", "c 1 hob after a"), plan(0, 0, 1, 10))
        self.begin([[3, 9, 5]], start(3, 1, 1), steps("a 2 hand", "b 1 hob after a", "c 5 hob after a"), plan(0, 0, 1, 10))

    def test_not_behind_is_by_the_slot_alone(self):
        self.begin([[9, 8, 5]], start(3, 1, 1), steps("a 1 hob", "b 2 hob", "c 5 hob"), plan(0, 0, 1, 10))
        self.begin([[4, 8, 5]], start(3, 1, 1), steps("a 1 hob", "b 2 hob", "c 5 hob after a"), plan(0, 0, 1, 10))

    def test_beginning_and_end_may_meet(self):
        self.begin([[6, 8]], start(1, 1, 1), steps("a 2 hob", "b 2 hob after a"), plan(0, 0, 1, 10))
        self.begin([[0, 1]], start(1, 1, 1), steps("a 1 hob", "b 1 oven after a"), plan(0, 0, 1, 2))
        self.begin([[-33, -33]], start(1, 1, 1), steps("a 1 hob", "b 1 oven after a"), plan(0, 0, 1, 1))

    def test_room_all_along(self):
        # d is at 27 to 29, c ahead of e at 21 to 23: between them is room for 3, not for 4.
        lines = ["x {} hand", "c 3 hand", "e 6 oven after c", "d 3 hand"]
        for slots, due in [(1, 26), (2, 25), (3, 24), (4, 17), (5, 16)]:
            with self.subTest(slots):
                self.begin([[due, 21, 24, 27]], start(1, 1, 1), steps(*[line.format(slots) for line in lines]),
                           plan(0, 0, 1, 30))

    def test_people_and_takes_dont_matter(self):
        calls = [start(), good("rice"), read("serves 3\ntake 9 rice\nstep a 7 hob\n")]
        self.begin([[3]], *calls, plan(0, 0, 1, 10))
        self.begin([[3]], *calls, plan(0, 0, 99, 10))
        self.begin([[3]], *calls, plan(0, 0, 99, 10), people(0, 5))

    def test_none_of_a_place(self):
        for equipment, line in [((0, 4, 6), "a 1 hob"), ((6, 0, 6), "a 1 oven")]:
            with self.subTest(line):
                self.begin([[-33]], start(*equipment), steps(line), plan(0))
                self.begin([[-33, -33]], start(*equipment), steps(line, "b 1 hand"), plan(0))
                self.begin([[-33, -33]], start(*equipment), steps("b 1 hand", line), plan(0))
                self.begin([[287]], start(*equipment), steps("b 1 hand"), plan(0))


class Meals(ClockCase):
    def test_by_their_slots(self):
        # Gone through by places the second would begin at 10.
        self.begin([[0], [20]], start(1, 1, 1), steps("a 20 hob"), plan(0, 0, 1, 50), plan(0, 0, 1, 40))
        self.begin([[20], [0]], start(1, 1, 1), steps("a 20 hob"), plan(0, 0, 1, 40), plan(0, 0, 1, 50))

    def test_of_like_slots_by_their_places(self):
        calls = [start(1, 1, 1), steps("a 20 hob"), steps("a 15 hob")]
        self.begin([[20], [5]], *calls, plan(0, 0, 1, 40), plan(0, 1, 1, 40))
        self.begin([[25], [5]], *calls, plan(0, 1, 1, 40), plan(0, 0, 1, 40))
        self.begin([[20], [0], [-33]], *calls, *[plan(0, 0, 1, 40)] * 3)

    def test_by_the_place_not_as_they_came(self):
        calls = [start(1, 1, 1), steps("a 10 hob"), plan(0, 0, 1, 40), plan(0, 0, 1, 40), unplan(0)]
        self.begin([[], [30]], *calls)
        self.begin([[30], [20]], *calls, plan(0, 0, 1, 40))

    def test_twelve_meals(self):
        calls = [start(1, 1, 1), steps("a 10 hob")] + [plan(0, 0, 1, 130 - k) for k in range(12)]
        # The last, by 119, is laid first, and the others ahead of it; the second alone finds room behind, up to 128.
        self.begin([[9], [119]] + [[10 * k - 1] for k in range(2, 12)], *calls)

    def test_another_day(self):
        calls = [start(1, 1, 1), steps("a 20 hob"), plan(0, 0, 1, 40), plan(1, 0, 1, 40), plan(2, 0, 1, 30)]
        self.begin([[20], [20], [10]], *calls)
        self.begin([[-33], [-33], [10]], *calls, move(1, 2, 40), move(0, 2, 49))
        self.begin([[30], [-33], [10]], *calls, move(1, 2, 40), move(0, 2, 50))

    def test_with_what_is_laid_already(self):
        calls = [start(2, 1, 1), read(DINNER), plan(0, 0, 1, 100), plan(0, 0, 1, 101), plan(0, 0, 1, 101)]
        # The oven and the hand are there once, two may boil at a time.
        self.begin([[93, 94, 86, 98], [91, 92, 74, 96], [89, 90, 62, 94]], *calls)
        self.begin([[93, 94, 86, 98], [89, 90, 74, 96], [85, 86, 62, 94]], *calls, equip(1, 1, 1))

    def test_nothing_of_it_is_laid(self):
        # b finds its slot at 20, but a then finds none: the other meal is laid as if it weren't there.
        calls = [start(1, 1, 1), steps("a 21 oven", "b 20 hob after a"), steps("a 20 hob")]
        self.begin([[-33, -33], [20]], *calls, plan(0, 0, 1, 40), plan(0, 1, 1, 40))
        self.begin([[1, 22], [2]], *calls, plan(0, 0, 1, 42), plan(0, 1, 1, 42))
        for slot, due in [(20, [1, 1, 0, 0]), (39, [1, 1, 0, 0]), (19, [1, 0, 0, 0]), (40, [1, 0, 0, 0])]:
            self.assertEqual(last(*calls, plan(0, 0, 1, 40), plan(0, 1, 1, 40), busy(0, slot)), due)

    def test_laid_behind_one_that_is_not(self):
        calls = [start(1, 1, 1), steps("a 30 hob"), steps("a 10 hob")]
        self.begin([[0], [-33], [30]], *calls, plan(0, 0, 1, 30), plan(0, 0, 1, 35), plan(0, 1, 1, 40))

    def test_cooked_meals_too(self):
        calls = [start(1, 1, 1), good("rice"), read("serves 1\ntake 3 rice\nstep a 20 hob\n"), buy(0, 3, 9),
                 plan(0, 0, 1, 40), plan(0, 0, 1, 40)]
        self.begin([[20], [0]], *calls)
        self.begin([[20], [0]], *calls, cook(0))
        self.assertEqual(last(*calls, cook(0), meal(0))[0], 1)
        self.begin([[], [20]], *calls, cook(0), unplan(0))

    def test_days_before_today_too(self):
        calls = [start(1, 1, 1), steps("a 20 hob"), plan(0, 0, 1, 40), plan(1, 0, 1, 50), day(), day()]
        self.begin([[20], [30]], *calls)
        self.assertEqual(ask(*calls, busy(0, 20), busy(1, 20), busy(2, 20))[-3:],
                         [[1, 1, 0, 0], [1, 0, 0, 0], [0, 0, 0, 0]])

    def test_last_day(self):
        calls = [start(1, 1, 1), steps("a 20 hob"), plan(10000, 0, 1, 40)]
        self.begin([[20]], *calls)
        self.assertEqual(last(*calls, busy(10000, 39)), [1, 1, 0, 0])

    def test_equipped_anew(self):
        calls = [start(1, 1, 1), steps("a 20 hob", "b 20 hob"), plan(0, 0, 1, 60)]
        self.begin([[20, 40]], *calls)
        self.begin([[40, 40]], *calls, equip(2, 1, 1))
        self.begin([[-33, -33]], *calls, equip(0, 1, 1))
        self.begin([[40, 40]], *calls, equip(0, 1, 1), equip(2, 1, 1))
        self.begin([[20, 40]], *calls, equip(2, 1, 1), equip(7, 1, 1), back())
        self.begin([[40, 40]], *calls, equip(2, 1, 1), back(), again())
        self.begin([[20, 40]], *calls, equip(7, 1, 1))

    def test_started_anew(self):
        calls = [start(1, 1, 1), start(2, 1, 1), start(7, 1, 1), steps("a 20 hob", "b 20 hob"), plan(0, 0, 1, 60)]
        self.begin([[40, 40]], *calls)

    def test_nothing_is_changed(self):
        calls = [start(1, 1, 1), steps("a 20 hob"), plan(0, 0, 1, 40), back(), again(), back()]
        self.assertEqual(last(*calls, when(0, 0), busy(0, 0), state()), last(*calls, state()))


class WhenRefused(unittest.TestCase):
    CALLS = [start(1, 0, 1), steps("a 1 hob", "b 2 hob"), steps("a 1 oven"), plan(0, 0), plan(0, 1)]

    def test_no_such_meal(self):
        for which in [2, 11, 12, LARGEST]:
            self.assertEqual(last(*self.CALLS, when(which, 0)), [-2])
        self.assertEqual(firsts(*self.CALLS, unplan(0), when(0, 0), when(1, 0))[-2:], [-2, -33])

    def test_no_such_step(self):
        self.assertEqual(firsts(*self.CALLS, when(0, 0), when(0, 1), when(0, 2), when(0, LARGEST))[-4:],
                         [285, 286, -2, -2])

    def test_first_told_first(self):
        self.assertEqual(firsts(*self.CALLS, when(1, 0), when(1, 1), when(1, LARGEST))[-3:], [-33, -2, -2])

    def test_eight_steps(self):
        calls = [start(), steps(*[f"{name} 1 hand" for name in "abcdefgh"]), plan(0)]
        self.assertEqual(firsts(*calls, *whens(0, 9))[-9:], list(range(280, 288)) + [-2])


class Busy(unittest.TestCase):
    CALLS = [start(2, 1, 1), read(DINNER), plan(0, 0, 1, 100)]

    def test_ordinary(self):
        # wash 93, boil 94 to 97, bake 86 to 97, lay 98 and 99.
        for slot, due in [(0, [0, 0, 0]), (85, [0, 0, 0]), (86, [0, 1, 0]), (92, [0, 1, 0]), (93, [0, 1, 1]),
                          (94, [1, 1, 0]), (97, [1, 1, 0]), (98, [0, 0, 1]), (99, [0, 0, 1]), (100, [0, 0, 0]),
                          (287, [0, 0, 0])]:
            with self.subTest(slot):
                self.assertEqual(last(*self.CALLS, busy(0, slot)), [4] + due)

    def test_several_at_one_place(self):
        calls = [start(6, 4, 6), steps("a 5 hob", "b 3 hob", "c 2 oven", "d 1 oven", "e 4 hand", "f 4 hand", "g 4 hand"),
                 plan(0), plan(0)]
        for slot, due in [(282, [0, 0, 0]), (283, [2, 0, 0]), (284, [2, 0, 6]), (285, [4, 0, 6]), (286, [4, 2, 6]),
                          (287, [4, 4, 6])]:
            with self.subTest(slot):
                self.assertEqual(last(*calls, busy(0, slot)), [14] + due)

    def test_empty_day(self):
        self.assertEqual(ask(*self.CALLS, busy(1, 95), busy(10000, 0))[-2:], [[0, 0, 0, 0], [0, 0, 0, 0]])
        self.assertEqual(last(start(), busy(0, 0)), [0, 0, 0, 0])

    def test_first_slot(self):
        self.assertEqual(ask(start(), steps("a 2 hob"), plan(0, 0, 1, 2), busy(0, 0), busy(0, 1), busy(0, 2))[-3:],
                         [[1, 1, 0, 0], [1, 1, 0, 0], [1, 0, 0, 0]])

    def test_last_slot(self):
        self.assertEqual(ask(start(), steps("a 1 oven"), plan(0), busy(0, 286), busy(0, 287), busy(0, 288))[-3:],
                         [[1, 0, 0, 0], [1, 0, 1, 0], [-22]])

    def test_refused(self):
        for to, slot in [(10001, 0), (LARGEST, 0), (0, 288), (0, LARGEST), (10001, 288), (LARGEST, LARGEST)]:
            with self.subTest((to, slot)):
                self.assertEqual(last(*self.CALLS, busy(to, slot)), [-22])

    def test_edges(self):
        for to, slot in [(0, 287), (10000, 0), (10000, 287)]:
            with self.subTest((to, slot)):
                self.assertEqual(last(*self.CALLS, busy(to, slot))[1:], [0, 0, 0])

    def test_not_laid_counts_nothing(self):
        calls = [start(1, 0, 1), steps("a 1 oven", "b 3 hob", "c 2 hand"), plan(0), busy(0, 287)]
        self.assertEqual(last(*calls), [0, 0, 0, 0])
        self.assertEqual(last(*calls, steps("a 1 hob", "b 1 hob"), plan(0, 1), busy(0, 287)), [2, 1, 0, 0])


if __name__ == "__main__":
    unittest.main()
