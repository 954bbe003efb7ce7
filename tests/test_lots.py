"""Points 4 (kt_buy) and 5 (kt_throw, kt_has, kt_lot, kt_totals)."""

import unittest

from tests.helper import LARGEST, ask, buy, day, firsts, good, has, last, lot, price, start, throw, totals
from wholekitchen.goods import kt_buy
from wholekitchen.state import Good, State

TWO = [start(), good("rice"), good("oil")]


def lots(*calls):
    """All lots behind these calls."""
    count = ask(*calls, lot(0))[-1][0]
    if count < 0:
        return []
    seen = ask(*calls, *[lot(k) for k in range(count + 1)])[-count - 1:]
    if seen[-1] != [-2] or [part[0] for part in seen[:-1]] != [count] * count:
        raise AssertionError(f"not so many lots as told: {seen}")
    return [tuple(part[1:]) for part in seen[:-1]]


class Buy(unittest.TestCase):
    def test_answers_what_may_be_used(self):
        self.assertEqual(firsts(*TWO, buy(0, 10, 5), buy(0, 5, 2), buy(1, 7, 3), buy(0, 1, 0))[3:], [10, 15, 7, 16])

    def test_lots_past_their_day_dont_count(self):
        self.assertEqual(firsts(*TWO, buy(0, 10, 0), buy(0, 5, 1), day(), buy(0, 100, 1), day(), buy(0, 1, 2))[3:],
                         [10, 15, 1, 105, 2, 1])

    def test_units(self):
        for units, due in [(0, -22), (1, 1), (1000000, 1000000), (1000001, -22), (LARGEST, -22)]:
            with self.subTest(units):
                self.assertEqual(last(*TWO, buy(0, units, 5)), [due])

    def test_last_day(self):
        for when, due in [(0, -22), (1, -22), (2, 3), (3, 3), (10000, 3), (10001, -22), (LARGEST, -22)]:
            with self.subTest(when):
                self.assertEqual(last(*TWO, day(), day(), buy(0, 3, when)), [due])

    def test_on_the_last_day(self):
        # No list of calls comes so far, so it's asked of the call itself.
        state = State(1, 1, 1)
        state.goods.append(Good("rice", 0, 0, 0, 0))
        state.today = 10000
        self.assertEqual([kt_buy(state, 0, 5, when)[1] for when in (9999, 10000, 10001)], [[-22], [5], [-22]])

    def test_no_such_good(self):
        self.assertEqual(last(start(), buy(0, 1, 1)), [-2])
        self.assertEqual(last(*TWO, buy(2, 1, 1)), [-2])
        self.assertEqual(last(*TWO, buy(LARGEST, 1, 1)), [-2])

    def test_32_lots(self):
        calls = TWO + [buy(k % 2, 1, k) for k in range(31)]
        self.assertEqual(last(*calls, buy(0, 1, 9)), [17])
        self.assertEqual(last(*calls, buy(0, 1, 9), buy(0, 1, 9)), [-28])
        self.assertEqual(last(*calls, buy(0, 1, 9), buy(1, 1, 9)), [-28])
        self.assertEqual(len(lots(*calls, buy(0, 1, 9), buy(0, 1, 9))), 32)

    def test_room_again_when_thrown(self):
        calls = TWO + [buy(0, 1, 0)] + [buy(0, 1, 1)] * 31
        self.assertEqual(firsts(*calls, day(), buy(1, 1, 1), throw(), buy(1, 1, 1), buy(1, 1, 1))[-5:],
                         [1, -28, 1, 1, -28])

    def test_refused_buys_nothing(self):
        for wrong in [buy(2, 1, 1), buy(0, 0, 1), buy(0, 1000001, 1), buy(0, 1, 0), buy(0, 1, 10001)]:
            with self.subTest(wrong):
                seen = ask(*TWO, day(), buy(0, 4, 6), wrong, totals(0), totals(1), has(0), lot(0), lot(1))
                self.assertEqual(seen[-5:], [[0, 4, 0, 0, 0], [0, 0, 0, 0, 0], [4], [1, 0, 4, 6], [-2]])


class EverBought(unittest.TestCase):
    # 96 lots of a million each bought and thrown away; four more lie there.
    CALLS = TWO + ([buy(0, 1000000, 0)] * 32 + [day(), throw()] + [buy(0, 1000000, 1)] * 32 + [day(), throw()]
                   + [buy(0, 1000000, 2)] * 32 + [day(), throw()] + [buy(0, 1000000, 3)] * 3)

    def test_up_to_100000000(self):
        seen = ask(*self.CALLS, buy(0, 1000000, 3), totals(0), buy(0, 1, 3), totals(0), buy(1, 1, 3))
        self.assertEqual(seen[-5:], [[4000000], [0, 100000000, 0, 96000000, 0], [-75],
                                     [0, 100000000, 0, 96000000, 0], [1]])

    def test_one_too_many(self):
        seen = firsts(*self.CALLS, buy(0, 1, 3), buy(0, 1000000, 3), buy(0, 999999, 3), buy(0, 1, 3))
        self.assertEqual(seen[-4:], [3000001, -75, 4000000, -75])

    def test_first_told_first(self):
        bought = self.CALLS + [buy(0, 1000000, 3)]
        full = bought + [buy(1, 1, 3)] * 28
        self.assertEqual(firsts(*full, buy(0, 1, 3), buy(0, 1, 2), buy(0, 0, 3), buy(2, 0, 3))[-4:],
                         [-28, -22, -22, -2])
        self.assertEqual(firsts(*bought, buy(0, 1000001, 3), buy(0, 1, 10001), buy(9, 0, 10001))[-3:],
                         [-22, -22, -2])


class Order(unittest.TestCase):
    def test_by_last_days(self):
        self.assertEqual(lots(*TWO, buy(0, 1, 5), buy(1, 2, 3), buy(0, 3, 9), buy(0, 4, 4)),
                         [(1, 2, 3), (0, 4, 4), (0, 1, 5), (0, 3, 9)])

    def test_of_like_ones_first_come_first(self):
        self.assertEqual(lots(*TWO, buy(0, 1, 5), buy(1, 2, 5), buy(0, 3, 4), buy(0, 4, 5), buy(1, 5, 4), buy(0, 6, 6)),
                         [(0, 3, 4), (1, 5, 4), (0, 1, 5), (1, 2, 5), (0, 4, 5), (0, 6, 6)])

    def test_lots_are_not_joined(self):
        self.assertEqual(lots(*TWO, buy(0, 1, 5), buy(0, 1, 5)), [(0, 1, 5), (0, 1, 5)])

    def test_no_lot(self):
        self.assertEqual(last(*TWO, lot(0)), [-2])
        self.assertEqual(firsts(*TWO, buy(0, 1, 5), lot(0), lot(1), lot(LARGEST))[-3:], [1, -2, -2])

    def test_lots_past_their_day_lie_there(self):
        self.assertEqual(lots(*TWO, buy(0, 1, 0), buy(0, 2, 1), day(), day()), [(0, 1, 0), (0, 2, 1)])

    def test_32(self):
        bought = [buy(0, k + 1, 40 - k) for k in range(32)]
        self.assertEqual(lots(*TWO, *bought), [(0, k + 1, 40 - k) for k in reversed(range(32))])


class Throw(unittest.TestCase):
    CALLS = TWO + [buy(0, 10, 0), buy(1, 20, 0), buy(0, 40, 1), buy(0, 80, 2), buy(1, 160, 1), buy(0, 5, 0)]

    def test_none(self):
        self.assertEqual(firsts(*TWO, throw(), buy(0, 3, 0), throw())[-3:], [0, 3, 0])
        self.assertEqual(lots(*TWO, buy(0, 3, 0), throw()), [(0, 3, 0)])

    def test_before_today_alone(self):
        self.assertEqual(last(*self.CALLS, day(), throw()), [3])
        self.assertEqual(lots(*self.CALLS, day(), throw()), [(0, 40, 1), (1, 160, 1), (0, 80, 2)])
        self.assertEqual(last(*self.CALLS, day(), day(), throw()), [5])
        self.assertEqual(lots(*self.CALLS, day(), day(), throw()), [(0, 80, 2)])
        self.assertEqual(last(*self.CALLS, day(), day(), day(), throw()), [6])
        self.assertEqual(lots(*self.CALLS, day(), day(), day(), throw()), [])

    def test_is_counted(self):
        seen = ask(*self.CALLS, day(), throw(), totals(0), totals(1), day(), throw(), totals(0), totals(1))
        self.assertEqual(seen[-6:-4] + seen[-2:], [[0, 135, 0, 15, 0], [0, 180, 0, 20, 0],
                                                   [0, 135, 0, 55, 0], [0, 180, 0, 180, 0]])

    def test_once(self):
        self.assertEqual(firsts(*self.CALLS, day(), throw(), throw())[-2:], [3, 0])


class Has(unittest.TestCase):
    def test_may_be_used_today(self):
        calls = TWO + [buy(0, 10, 0), buy(0, 20, 1), buy(1, 40, 2)]
        self.assertEqual(firsts(*calls, has(0), has(1), day(), has(0), has(1), day(), has(0), has(1), day(), has(1))[6:],
                         [30, 40, 1, 20, 40, 2, 0, 40, 3, 0])

    def test_nothing(self):
        self.assertEqual(last(*TWO, has(0)), [0])

    def test_no_such_good(self):
        self.assertEqual(firsts(*TWO, has(1), has(2), has(LARGEST))[-3:], [0, -2, -2])

    def test_most(self):
        self.assertEqual(last(*TWO, *[buy(0, 1000000, 0)] * 32, has(0)), [32000000])


class Totals(unittest.TestCase):
    def test_ordinary(self):
        seen = ask(*TWO, price(0, 12), buy(0, 3, 0), buy(0, 4, 1), day(), throw(), totals(0), totals(1))
        self.assertEqual(seen[-2:], [[0, 7, 0, 3, 12], [0, 0, 0, 0, 0]])

    def test_no_such_good(self):
        self.assertEqual(firsts(*TWO, totals(1), totals(2), totals(LARGEST))[-3:], [0, -2, -2])

    def test_not_thrown_is_not_counted(self):
        self.assertEqual(last(*TWO, buy(0, 3, 0), day(), totals(0)), [0, 3, 0, 0, 0])


if __name__ == "__main__":
    unittest.main()
