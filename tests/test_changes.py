"""Which calls are changes, and that a change leaves the state it starts from as it was."""

import unittest

from tests.helper import row
from wholekitchen.clock import kt_busy, kt_when
from wholekitchen.cooking import kt_cook
from wholekitchen.goods import kt_buy, kt_good, kt_has, kt_lot, kt_price, kt_throw, kt_totals
from wholekitchen.lacking import kt_cost, kt_lacks, kt_list
from wholekitchen.meals import kt_meal, kt_move, kt_people, kt_plan, kt_unplan
from wholekitchen.recipes import kt_drop, kt_read, kt_takes, kt_write
from wholekitchen.setting import kt_day, kt_equip, kt_start

TEXT = "serves 2\ntake 3 rice\nstep a 1 hob\nstep b 2 oven after a\n"


def plain(value):
    """All that a value holds, as plain lists, to be compared."""
    if isinstance(value, (list, tuple)):
        return [plain(part) for part in value]
    if isinstance(value, dict):
        return [[key, plain(part)] for key, part in value.items()]
    if hasattr(value, "__dict__"):
        return plain(vars(value))
    return value


def some_kitchen():
    state = kt_start(2, 1, 1)[0]
    state = kt_good(state, 4, row("rice", 8))[0]
    state = kt_good(state, 3, row("oil", 8))[0]
    state = kt_buy(state, 0, 10, 0)[0]
    state = kt_buy(state, 1, 20, 5)[0]
    state = kt_buy(state, 0, 6, 5)[0]
    state = kt_buy(state, 0, 8, 6)[0]
    state = kt_read(state, len(TEXT), row(TEXT, 400))[0]
    state = kt_read(state, len(TEXT), row(TEXT, 400))[0]
    state = kt_plan(state, 4, 1, 2, 100)[0]
    state = kt_plan(state, 1, 1, 5, 90)[0]
    state = kt_plan(state, 1, 1, 50, 90)[0]
    return kt_day(state)[0]


class Changes(unittest.TestCase):
    CHANGES = {
        "equip": lambda state: kt_equip(state, 0, 0, 6),
        "equip, all stays": lambda state: kt_equip(state, 2, 1, 1),
        "day": kt_day,
        "good": lambda state: kt_good(state, 4, row("salt", 8)),
        "price": lambda state: kt_price(state, 1, 9),
        "price, all stays": lambda state: kt_price(state, 1, 0),
        "buy": lambda state: kt_buy(state, 0, 7, 3),
        "throw": kt_throw,
        "read": lambda state: kt_read(state, len(TEXT), row(TEXT, 400)),
        "drop": lambda state: kt_drop(state, 0),
        "plan": lambda state: kt_plan(state, 7, 1, 3, 200),
        "move": lambda state: kt_move(state, 0, 4, 7),
        "move, all stays": lambda state: kt_move(state, 1, 1, 90),
        "people": lambda state: kt_people(state, 0, 9),
        "people, all stays": lambda state: kt_people(state, 1, 5),
        "cook": lambda state: kt_cook(state, 1),
        "unplan": lambda state: kt_unplan(state, 0),
    }

    OTHERS = {
        "has": lambda state: kt_has(state, 0),
        "lot": lambda state: kt_lot(state, 0),
        "totals": lambda state: kt_totals(state, 0),
        "write": lambda state: kt_write(state, 0),
        "takes": lambda state: kt_takes(state, 0, 0, 1),
        "throw, none": lambda state: kt_throw(kt_throw(state)[0]),
        "equip, refused": lambda state: kt_equip(state, 7, 0, 1),
        "good, refused": lambda state: kt_good(state, 4, row("rice", 8)),
        "price, refused": lambda state: kt_price(state, 2, 9),
        "buy, refused": lambda state: kt_buy(state, 0, 7, 0),
        "read, refused": lambda state: kt_read(state, 1, row(TEXT, 400)),
        "drop, refused": lambda state: kt_drop(state, 2),
        "drop, planned": lambda state: kt_drop(state, 1),
        "meal": lambda state: kt_meal(state, 0),
        "lacks": lambda state: kt_lacks(state, 0, 9),
        "list": lambda state: kt_list(state, 9),
        "cost": lambda state: kt_cost(state, 9),
        "when": lambda state: kt_when(state, 0, 0),
        "busy": lambda state: kt_busy(state, 4, 99),
        "plan, refused": lambda state: kt_plan(state, 0, 1, 3, 200),
        "move, refused": lambda state: kt_move(state, 0, 0, 7),
        "people, refused": lambda state: kt_people(state, 0, 100),
        "unplan, refused": lambda state: kt_unplan(state, 3),
        "cook, another day": lambda state: kt_cook(state, 0),
        "cook, not enough": lambda state: kt_cook(state, 2),
    }

    def test_changes(self):
        for name, call in self.CHANGES.items():
            with self.subTest(name):
                state = some_kitchen()
                before = plain(state)
                new, numbers = call(state)
                self.assertIsNotNone(new)
                self.assertIsNot(new, state)
                self.assertGreaterEqual(numbers[0], 0)
                self.assertEqual(plain(new) == before, "all stays" in name)
                self.assertEqual(plain(state), before)

    def test_no_changes(self):
        for name, call in self.OTHERS.items():
            with self.subTest(name):
                state = some_kitchen()
                before = plain(state)
                self.assertIsNone(call(state)[0])
                self.assertEqual(plain(state), before)

    def test_one_behind_another(self):
        states = [some_kitchen()]
        seen = [plain(states[0])]
        for call in self.CHANGES.values():
            new = call(states[-1])[0]
            if new is not None:
                states.append(new)
                seen.append(plain(new))
        self.assertEqual([plain(state) for state in states], seen)


if __name__ == "__main__":
    unittest.main()
