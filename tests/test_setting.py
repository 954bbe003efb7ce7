"""The row ahead of point 1, point 1 (kt_start, kt_equip) and point 2 (kt_day)."""

import unittest

from tests.helper import (LARGEST, ask, buy, day, equip, firsts, good, has, last, looks, lot, price, read, start,
                          throw, totals, write)
from wholekitchen.setting import kt_day, kt_equip, kt_start

FIT = [(0, 0, 1), (6, 4, 6), (0, 4, 3), (6, 0, 1), (3, 2, 6)]
UNFIT = [(7, 0, 1), (0, 5, 1), (0, 0, 0), (0, 0, 7), (6, 4, 0), (6, 4, 7), (7, 4, 6), (6, 5, 6), (7, 5, 7),
         (LARGEST, 0, 1), (0, LARGEST, 1), (0, 0, LARGEST), (LARGEST, LARGEST, LARGEST)]


class Start(unittest.TestCase):
    def test_fit(self):
        for numbers in FIT:
            with self.subTest(numbers):
                self.assertEqual(ask(start(*numbers)), [[0]])

    def test_refused(self):
        for numbers in UNFIT:
            with self.subTest(numbers):
                self.assertEqual(ask(start(*numbers)), [[-22]])

    def test_may_be_refused_and_called_again(self):
        self.assertEqual(firsts(start(7, 0, 1), start(0, 0, 0), start(1, 1, 1), day()), [-22, -22, 0, 1])

    def test_has_so_many(self):
        state = kt_start(5, 3, 2)[0]
        self.assertEqual((state.hobs, state.ovens, state.hands, state.today), (5, 3, 2, 0))

    def test_is_empty(self):
        seen = ask(start(), *looks())[1:]
        self.assertEqual(seen, [[-2]] * len(seen))
        self.assertEqual(last(start(), throw()), [0])


class StartAgain(unittest.TestCase):
    FULL = [good("rice"), good("oil"), price(1, 70), buy(0, 5, 0), buy(1, 9, 4), day(), buy(1, 3, 2), throw(),
            read("serves 2\ntake 3 oil\nstep a 1 hob\n"), buy(0, 8, 1)]

    def test_refused_all_stays(self):
        before = ask(start(), *self.FULL, *looks(), day())
        for numbers in UNFIT:
            with self.subTest(numbers):
                after = ask(start(), *self.FULL, start(*numbers), *looks(), day())
                self.assertEqual(after.pop(1 + len(self.FULL)), [-22])
                self.assertEqual(after, before)

    def test_refused_equipment_stays(self):
        self.assertEqual(kt_start(7, 0, 1), (None, [-22]))

    def test_empty_again(self):
        after = ask(start(), *self.FULL, start(0, 0, 1), *looks(), throw(), day(), good("salt"))
        fresh = ask(start(0, 0, 1), *looks(), throw(), day(), good("salt"))
        self.assertEqual(after[1 + len(self.FULL):], fresh)


class Equip(unittest.TestCase):
    def test_fit(self):
        for numbers in FIT:
            with self.subTest(numbers):
                self.assertEqual(last(start(), equip(*numbers)), [0])
                state = kt_equip(kt_start(2, 1, 1)[0], *numbers)[0]
                self.assertEqual((state.hobs, state.ovens, state.hands), numbers)

    def test_refused(self):
        for numbers in UNFIT:
            with self.subTest(numbers):
                self.assertEqual(last(start(), equip(*numbers)), [-22])
                self.assertIsNone(kt_equip(kt_start(2, 1, 1)[0], *numbers)[0])

    def test_all_else_stays(self):
        before = ask(start(), *StartAgain.FULL, *looks(), day())
        after = ask(start(), *StartAgain.FULL, equip(6, 4, 6), *looks(), day())
        self.assertEqual(after.pop(1 + len(StartAgain.FULL)), [0])
        self.assertEqual(after, before)


class Day(unittest.TestCase):
    def test_next_day(self):
        self.assertEqual(ask(start(), day(), day(), day()), [[0], [1], [2], [3]])

    def test_start_begins_at_0(self):
        self.assertEqual(firsts(start(), day(), day(), start(), day()), [0, 1, 2, 0, 1])

    def test_last_day(self):
        # A list has at most 1,000 calls: the last day is out of its reach, so it's asked of the call itself.
        state = kt_start(2, 1, 1)[0]
        state.today = 9999
        state, numbers = kt_day(state)
        self.assertEqual((state.today, numbers), (10000, [10000]))
        self.assertEqual(kt_day(state), (None, [-28]))
        self.assertEqual(state.today, 10000)

    def test_as_many_days_as_a_list_has(self):
        self.assertEqual(firsts(start(), *[day()] * 999), [0] + list(range(1, 1000)))

    def test_all_else_stays(self):
        calls = [good("rice"), price(0, 3), buy(0, 5, 9), read("serves 1\nstep a 1 hand\n")]
        seen = ask(start(), *calls, day(), has(0), lot(0), totals(0), write(0))
        self.assertEqual(seen[6:9], [[5], [1, 0, 5, 9], [0, 5, 0, 0, 3]])
        self.assertEqual(seen[9][0], 23)


if __name__ == "__main__":
    unittest.main()
