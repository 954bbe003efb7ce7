"""How calls and answers lie in their lists, and that nothing is kept or changed."""

import unittest

from tests.helper import (again, ask, back, busy, buy, cook, cost, day, drop, equip, good, has, lacks, listed, lot,
                          looks, meal, move, people, plan, price, read, start, state, takes, throw, totals, unplan,
                          when, write)
from wholekitchen.kitchen import answers

LEAST = "serves 1\nstep a 1 hob\n"
EACH = [start(2, 1, 1), equip(1, 1, 1), day(), good("rice"), price(0, 5), buy(0, 10, 3), throw(), has(0), lot(0),
        totals(0), read(LEAST), write(0), takes(0, 0, 1), plan(1), move(0, 1, 9), people(0, 2), meal(0), lacks(0, 5),
        listed(5), cost(5), cook(0), when(0, 0), busy(1, 8), unplan(0), back(), again(), state(), drop(0)]
# Up to the last look at a kitchen in which something is of each kind.
FULL = EACH[:-5]


def flat(calls):
    return [number for call in calls for number in call]


class Form(unittest.TestCase):
    def test_numbers_as_they_are_told(self):
        calls = [0, 2, 1, 1,
                 3, 4, 8, 114, 105, 99, 101, 0, 0, 0, 0,
                 4, 0, 250,
                 5, 0, 40, 7,
                 5, 0, 40, 10001,
                 2,
                 8, 0,
                 9, 0,
                 7, 1,
                 6,
                 1, 7, 0, 1]
        self.assertEqual(answers(calls), [1, 0,
                                          1, 0,
                                          1, 0,
                                          1, 40,
                                          1, -22,
                                          1, 1,
                                          4, 1, 0, 40, 7,
                                          5, 0, 40, 0, 0, 250,
                                          1, -2,
                                          1, 0,
                                          1, -22])

    def test_recipes_as_they_are_told(self):
        text = list(LEAST.encode())
        padded = text + [0] * (400 - len(text))
        calls = [0, 2, 1, 1, 10, len(text), 400] + padded + [11, 0, 13, 0, 0, 1, 12, 0, 12, 0, 11, 0]
        self.assertEqual(answers(calls), [1, 0, 1, 0, 401, len(text)] + padded + [1, -2, 1, 0, 1, -2, 1, -2])

    def test_meals_as_they_are_told(self):
        text = list(b"serves 2\ntake 3 rice\nstep a 4 oven\n")
        calls = [0, 2, 1, 1,
                 3, 4, 8, 114, 105, 99, 101, 0, 0, 0, 0,
                 10, len(text), 400] + text + [0] * (400 - len(text)) + [
                     4, 0, 900,
                     14, 1, 0, 5, 200,
                     15, 0, 3, 100,
                     16, 0, 7,
                     18, 0,
                     19, 0, 3,
                     20, 3,
                     21, 3,
                     22, 0,
                     23, 0, 0,
                     24, 3, 99,
                     25,
                     26,
                     27,
                     17, 0,
                     18, 0]
        self.assertEqual(answers(calls), [1, 0,
                                          1, 0,
                                          1, 0,
                                          1, 0,
                                          1, 0,
                                          1, 0,
                                          1, 0,
                                          5, 0, 3, 0, 7, 100,
                                          1, 11,
                                          17, 1, 11, 0, 0, 0, 0, 0, 0, 0, 0, 0, 0, 0, 0, 0, 0, 0,
                                          2, 0, 10,
                                          1, -16,
                                          1, 96,
                                          4, 1, 0, 1, 0,
                                          1, 5,
                                          1, 0,
                                          7, 0, 1, 1, 1, 0, 6, 0,
                                          1, 0,
                                          1, -2])

    def test_how_many_numbers(self):
        self.assertEqual([len(part) for part in ask(*EACH)], [1, 1, 1, 1, 1, 1, 1, 1, 4, 5, 1, 401, 1, 1, 1, 1, 5, 1, 17,
                                                              2, 1, 1, 4, 1, 1, 1, 7, 1])
        self.assertEqual(sorted(call[0] for call in EACH), list(range(28)))
        self.assertTrue(all(part[0] >= 0 for part in ask(*EACH)))

    def test_refusal_is_alone(self):
        for part in ask(start(), *looks()):
            if part[0] < 0:
                self.assertEqual(len(part), 1)

    def test_whole_numbers_alone(self):
        given = answers(flat(EACH))
        self.assertIs(type(given), list)
        for number in given:
            self.assertIs(type(number), int)

    def test_longest_list(self):
        reads = [read(LEAST)] * 8 + [read(LEAST)] * 60
        few = [start()] + reads + [day()] * 931
        self.assertEqual(len(few), 1000)
        self.assertLessEqual(len(flat(few)), 30000)
        self.assertEqual([part[0] for part in ask(*few)],
                         [0] + list(range(8)) + [-28] * 60 + list(range(1, 932)))


class NothingKept(unittest.TestCase):
    def test_calls_stay_as_they_were(self):
        calls = flat(EACH)
        copy = list(calls)
        answers(calls)
        self.assertEqual(calls, copy)

    def test_one_list_behind_another(self):
        calls = flat(FULL)
        first = answers(calls)
        answers(flat([start(6, 4, 6), good("oil"), good("rice"), day(), buy(1, 3, 1), day(), throw(), read(LEAST),
                      plan(2), plan(2), cook(1), back(), back()]))
        self.assertEqual(answers(calls), first)
        self.assertEqual(ask(start(), back(), again(), state())[1:], [[-2], [-2], [0] * 7])
        seen = ask(start(), *looks())
        self.assertEqual(seen, [[0]] + [[-2]] * (len(seen) - 1))

    def test_refused_start_keeps_nothing(self):
        answers(flat(FULL))
        self.assertEqual(answers([0, 7, 0, 1]), [1, -22])

    def test_given_list_may_be_changed(self):
        calls = flat(EACH)
        first = answers(calls)
        copy = list(first)
        first.clear()
        self.assertEqual(answers(calls), copy)


if __name__ == "__main__":
    unittest.main()
