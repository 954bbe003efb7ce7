"""Point 12 (kt_back, kt_again, kt_state), and which calls are changes."""

import unittest

from tests.helper import (again, ask, back, busy, buy, cook, cost, day, drop, equip, firsts, good, has, lacks, last,
                          listed, lot, meal, move, people, plan, price, read, start, state, takes, throw, totals,
                          unplan, views, when, write)

TEXT = "serves 2\ntake 10 rice\nstep boil 4 hob\nstep fry 3 hob\nstep stew 5 hob\nstep lay 1 hand after boil\n"
# Today is 1; meal 0 is cooked, and a lot is past its last day.
KITCHEN = [start(2, 1, 1), good("rice"), good("oil"), price(0, 500), buy(0, 90, 4), buy(1, 5, 0), read(TEXT),
           read("serves 3\ntake 1 oil\nstep a 9 oven\n"), plan(1, 0, 2, 100), plan(3, 0, 4, 50), day(), cook(0)]
MADE = len(KITCHEN) - 1

CHANGES = {
    "equip": equip(6, 4, 6),
    "equip, no hobs": equip(0, 1, 1),
    "equip, all stays": equip(2, 1, 1),
    "day": day(),
    "good": good("salt"),
    "price": price(1, 70),
    "price, all stays": price(0, 500),
    "buy": buy(0, 6, 2),
    "throw": throw(),
    "read": read(TEXT),
    "drop": drop(1),
    "plan": plan(1, 1, 9, 288),
    "move": move(1, 2, 288),
    "move, all stays": move(1, 3, 50),
    "people": people(1, 99),
    "people, all stays": people(1, 4),
    "unplan": unplan(1),
    "unplan, cooked": unplan(0),
}

QUESTIONS = {
    "has": has(0), "lot": lot(0), "totals": totals(0), "write": write(0), "takes": takes(0, 0, 1), "meal": meal(0),
    "lacks": lacks(0, 9), "list": listed(9), "cost": cost(9), "when": when(0, 0), "busy": busy(1, 99), "state": state(),
}

REFUSED = {
    "start": start(7, 0, 1), "equip": equip(0, 0, 7), "good": good("rice"), "good, none": good("Rice"),
    "price": price(2, 1), "price, too high": price(0, 100001), "buy": buy(0, 1, 0), "buy, no good": buy(2, 1, 5),
    "has": has(2), "lot": lot(9), "totals": totals(2), "read": read("serves 1\n"), "write": write(2), "drop": drop(0),
    "drop, none": drop(2), "takes": takes(0, 0, 0), "plan": plan(0), "plan, no recipe": plan(3, 2),
    "move": move(0, 3, 50), "move, none": move(2, 3, 50), "people": people(0, 5), "people, none": people(1, 0),
    "unplan": unplan(2), "meal": meal(2), "lacks": lacks(0, 0), "list": listed(0), "cost": cost(0), "cook": cook(0),
    "cook, another day": cook(1), "when": when(0, 4), "busy": busy(0, 288),
}


def counts(*calls):
    """How many changes can be taken back and how many done again behind these calls."""
    return last(*calls, state())[5:]


def seen_of(*calls):
    """All that can be seen of the kitchen behind these calls."""
    today = last(*calls, state())[0]
    return ask(*calls, state(), *views(today))[len(calls):]


def but_changes(seen):
    return [seen[0][:5]] + seen[1:]


class Back(unittest.TestCase):
    def test_nothing_to_take_back(self):
        self.assertEqual(ask(start(), back(), back(), state())[1:], [[-2], [-2], [0, 0, 0, 0, 0, 0, 0]])

    def test_how_many_can_still_be(self):
        calls = [start(), day(), day(), day()]
        self.assertEqual(ask(*calls, back(), back(), back(), back(), state())[4:],
                         [[2], [1], [0], [-2], [0, 0, 0, 0, 0, 0, 3]])

    def test_each_change(self):
        before = seen_of(*KITCHEN)
        for name, change in CHANGES.items():
            with self.subTest(name):
                after = seen_of(*KITCHEN, change)
                self.assertEqual(after[0][5:], [MADE + 1, 0])
                self.assertEqual(but_changes(after) == but_changes(before), "all stays" in name)
                taken = seen_of(*KITCHEN, change, back())
                self.assertEqual(taken[0][5:], [MADE, 1])
                self.assertEqual(but_changes(taken), but_changes(before))
                done = seen_of(*KITCHEN, change, back(), again())
                self.assertEqual(done, after)

    def test_cook(self):
        calls = KITCHEN + [plan(1, 0, 9, 20)]
        before = seen_of(*calls)
        after = seen_of(*calls, cook(2))
        self.assertEqual(after[0][5:], [MADE + 2, 0])
        self.assertNotEqual(but_changes(after), but_changes(before))
        self.assertEqual(but_changes(seen_of(*calls, cook(2), back())), but_changes(before))
        self.assertEqual(seen_of(*calls, cook(2), back(), again()), after)

    def test_one_behind_another(self):
        seen = [but_changes(seen_of(*KITCHEN[:k + 1])) for k in range(MADE + 1)]
        for k in range(MADE + 1):
            with self.subTest(k):
                self.assertEqual(but_changes(seen_of(*KITCHEN, *[back()] * k)), seen[MADE - k])
                self.assertEqual(counts(*KITCHEN, *[back()] * k), [MADE - k, k])
                calls = KITCHEN + [back()] * MADE + [again()] * k
                self.assertEqual(but_changes(seen_of(*calls)), seen[k])
                self.assertEqual(counts(*calls), [k, MADE - k])


class Sixty(unittest.TestCase):
    def test_sixty(self):
        for made in (59, 60, 61, 100):
            with self.subTest(made):
                kept = min(made, 60)
                calls = [start()] + [day()] * made
                self.assertEqual(counts(*calls), [kept, 0])
                seen = ask(*calls, *[back()] * kept, state(), back(), state())[1 + made:]
                self.assertEqual(seen, [[k] for k in reversed(range(kept))] + [
                    [made - kept, 0, 0, 0, 0, 0, kept], [-2], [made - kept, 0, 0, 0, 0, 0, kept]])

    def test_sixty_again(self):
        calls = [start()] + [day()] * 61 + [back()] * 60
        seen = ask(*calls, *[again()] * 60, state(), again(), state())[len(calls):]
        self.assertEqual(seen, [[k] for k in reversed(range(60))] + [
            [61, 0, 0, 0, 0, 60, 0], [-2], [61, 0, 0, 0, 0, 60, 0]])

    def test_sixty_behind_some_taken_back(self):
        calls = [start()] + [day()] * 60 + [back()] * 20 + [good("rice")] + [price(0, k) for k in range(30)]
        self.assertEqual(last(*calls, state()), [40, 1, 0, 0, 0, 60, 0])
        self.assertEqual(last(*calls, *[back()] * 60, state()), [11, 0, 0, 0, 0, 0, 60])
        self.assertEqual(last(*calls, *[back()] * 60, *[again()] * 60, totals(0)), [0, 0, 0, 0, 29])

    def test_back_and_again_many_times(self):
        calls = [start()] + [day()] * 70 + ([back()] * 60 + [again()] * 60) * 3
        self.assertEqual(last(*calls, state()), [70, 0, 0, 0, 0, 60, 0])
        self.assertEqual(firsts(*calls, *[back()] * 61)[-2:], [0, -2])


class Again(unittest.TestCase):
    def test_nothing_to_do_again(self):
        self.assertEqual(firsts(start(), again(), day(), again())[1:], [-2, 1, -2])

    def test_in_order(self):
        calls = [start(), day(), good("rice"), price(0, 5), buy(0, 7, 3)]
        self.assertEqual(ask(*calls, *[back()] * 4, again(), state(), again(), state(), again(), totals(0), again(),
                             totals(0), again())[9:],
                         [[3], [1, 0, 0, 0, 0, 1, 3], [2], [1, 1, 0, 0, 0, 2, 2], [1], [0, 0, 0, 0, 5],
                          [0], [0, 7, 0, 0, 5], [-2]])

    def test_the_one_taken_back_last(self):
        self.assertEqual(ask(start(), good("a"), good("b"), good("c"), back(), back(), again(), good("b"), state())[4:],
                         [[2], [1], [1], [-17], [0, 2, 0, 0, 0, 2, 1]])

    def test_none_behind_another_change(self):
        for name, change in CHANGES.items():
            with self.subTest(name):
                calls = KITCHEN + [good("z"), good("y"), back(), back()]
                self.assertEqual(counts(*calls), [MADE, 2])
                self.assertEqual(firsts(*calls, change, again())[-1], -2)
                self.assertEqual(counts(*calls, change), [MADE + 1, 0])
        self.assertEqual(counts(*KITCHEN, plan(1), good("z"), back(), cook(2)), [MADE + 2, 0])

    def test_none_behind_the_same_change(self):
        self.assertEqual(firsts(start(), day(), day(), back(), day(), again(), back(), back(), back())[-4:], [-2, 1, 0, -2])

    def test_questions_leave_them(self):
        for name, question in QUESTIONS.items():
            with self.subTest(name):
                calls = KITCHEN + [good("z"), good("y"), back(), back(), question]
                self.assertGreaterEqual(last(*calls)[0], 0)
                self.assertEqual(counts(*calls), [MADE, 2])
                self.assertEqual(firsts(*calls, again(), again(), again())[-3:], [1, 0, -2])

    def test_refused_calls_leave_them(self):
        for name, refused in REFUSED.items():
            with self.subTest(name):
                calls = KITCHEN + [good("z"), good("y"), back(), back()]
                self.assertLess(last(*calls, refused)[0], 0)
                self.assertEqual(counts(*calls, refused), [MADE, 2])
                self.assertEqual(seen_of(*calls, refused), seen_of(*calls))
                self.assertEqual(firsts(*calls, refused, again(), again(), again())[-3:], [1, 0, -2])

    def test_refused_for_want_of_room(self):
        full = [start(), read(TEXT.replace("take 10 rice\n", ""))] + [plan(0)] * 12 + [day(), back()]
        self.assertEqual(ask(*full, plan(0), state())[-2:], [[-28], [0, 0, 1, 12, 0, 13, 1]])
        kitchen = [start(), good("rice")]
        self.assertEqual(ask(*kitchen, *[buy(0, 1, 1)] * 32, day(), back(), buy(0, 1, 1), state())[-2:],
                         [[-28], [0, 1, 0, 0, 32, 33, 1]])

    def test_cook_refused_leaves_them(self):
        calls = KITCHEN + [plan(1, 0, 99), good("z"), back(), cook(2)]
        self.assertEqual(last(*calls), [-61])
        self.assertEqual(counts(*calls), [MADE + 1, 1])

    def test_throw_of_nothing_leaves_them(self):
        calls = KITCHEN + [throw(), good("z"), back()]
        self.assertEqual(ask(*calls, throw(), state())[-2:], [[0], [1, 2, 2, 2, 1, MADE + 1, 1]])
        self.assertEqual(firsts(*calls, throw(), again(), again())[-2:], [0, -2])


class StartAnew(unittest.TestCase):
    def test_forgets_all(self):
        calls = KITCHEN + [good("z"), good("y"), back(), start(1, 1, 1)]
        self.assertEqual(ask(*calls, state(), back(), again(), state())[-4:],
                         [[0, 0, 0, 0, 0, 0, 0], [-2], [-2], [0, 0, 0, 0, 0, 0, 0]])
        self.assertEqual(firsts(*calls, day(), back(), back())[-2:], [0, -2])

    def test_refused_forgets_nothing(self):
        calls = KITCHEN + [good("z"), back()]
        self.assertEqual(seen_of(*calls, start(0, 0, 0)), seen_of(*calls))
        self.assertEqual(firsts(*calls, start(0, 0, 0), again(), back(), back())[-3:], [0, MADE, MADE - 1])

    def test_is_no_change(self):
        self.assertEqual(firsts(start(), start(), start(), back())[-1], -2)


class Equipped(unittest.TestCase):
    def test_taken_back_and_done_again(self):
        calls = [start(1, 1, 1), read("serves 1\nstep a 10 hob\nstep b 10 hob\n"), plan(0, 0, 1, 20)]
        self.assertEqual(firsts(*calls, when(0, 0), equip(2, 1, 1), when(0, 0), back(), when(0, 0), again(), when(0, 0),
                                equip(0, 1, 1), when(0, 0), back(), when(0, 0), back(), when(0, 0))[3:],
                         [0, 0, 10, 2, 0, 0, 10, 0, -33, 3, 10, 2, 0])


class State(unittest.TestCase):
    def test_empty(self):
        self.assertEqual(last(start(), state()), [0, 0, 0, 0, 0, 0, 0])

    def test_ordinary(self):
        self.assertEqual(last(*KITCHEN, state()), [1, 2, 2, 2, 2, MADE, 0])
        self.assertEqual(last(*KITCHEN, back(), back(), state()), [0, 2, 2, 2, 2, MADE - 2, 2])

    def test_how_many_there_are(self):
        self.assertEqual(last(*KITCHEN, drop(1), unplan(0), throw(), state())[:5], [1, 2, 1, 1, 1])
        self.assertEqual(last(*KITCHEN, plan(1), plan(1), read(TEXT), unplan(0), state())[:5], [1, 2, 3, 3, 2])

    def test_most(self):
        calls = [start()] + [good(name) for name in "abcdefghijklmnop"] + [read("serves 1\nstep a 1 hob\n")] * 8
        calls += [plan(0)] * 12 + [buy(0, 1, 5)] * 32
        self.assertEqual(last(*calls, state()), [0, 16, 8, 12, 32, 60, 0])


if __name__ == "__main__":
    unittest.main()
