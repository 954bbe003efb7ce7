"""Which calls are changes, and that a change leaves the state it starts from as it was."""

import unittest

from tests.helper import row
from wholekitchen.goods import kt_buy, kt_good, kt_has, kt_lot, kt_price, kt_throw, kt_totals
from wholekitchen.recipes import kt_drop, kt_read, kt_takes, kt_write
from wholekitchen.setting import kt_day, kt_equip, kt_start
from wholekitchen.state import Meal

TEXT = "serves 2\ntake 3 rice\nstep a 1 hob\nstep b 2 oven after a\n"


def plain(value):
    """All that a value holds, as plain lists, to be compared."""
    if isinstance(value, (list, tuple)):
        return [plain(part) for part in value]
    if isinstance(value, dict):
        return [[key, plain(part)] for key, part in value.items()]
    if hasattr(value, "__dict__"):
        return plain(vars(value))
    return value


def some_kitchen():
    state = kt_start(2, 1, 1)[0]
    state = kt_good(state, 4, row("rice", 8))[0]
    state = kt_good(state, 3, row("oil", 8))[0]
    state = kt_buy(state, 0, 10, 0)[0]
    state = kt_buy(state, 1, 20, 5)[0]
    state = kt_read(state, len(TEXT), row(TEXT, 400))[0]
    state = kt_read(state, len(TEXT), row(TEXT, 400))[0]
    state.meals[3] = Meal(4, 1, 2, 100, 0)
    return kt_day(state)[0]


class Changes(unittest.TestCase):
    CHANGES = {
        "equip": lambda state: kt_equip(state, 0, 0, 6),
        "equip, all stays": lambda state: kt_equip(state, 2, 1, 1),
        "day": kt_day,
        "good": lambda state: kt_good(state, 4, row("salt", 8)),
        "price": lambda state: kt_price(state, 1, 9),
        "price, all stays": lambda state: kt_price(state, 1, 0),
        "buy": lambda state: kt_buy(state, 0, 7, 3),
        "throw": kt_throw,
        "read": lambda state: kt_read(state, len(TEXT), row(TEXT, 400)),
        "drop": lambda state: kt_drop(state, 0),
    }

    OTHERS = {
        "has": lambda state: kt_has(state, 0),
        "lot": lambda state: kt_lot(state, 0),
        "totals": lambda state: kt_totals(state, 0),
        "write": lambda state: kt_write(state, 0),
        "takes": lambda state: kt_takes(state, 0, 0, 1),
        "throw, none": lambda state: kt_throw(kt_throw(state)[0]),
        "equip, refused": lambda state: kt_equip(state, 7, 0, 1),
        "good, refused": lambda state: kt_good(state, 4, row("rice", 8)),
        "price, refused": lambda state: kt_price(state, 2, 9),
        "buy, refused": lambda state: kt_buy(state, 0, 7, 0),
        "read, refused": lambda state: kt_read(state, 1, row(TEXT, 400)),
        "drop, refused": lambda state: kt_drop(state, 2),
        "drop, planned": lambda state: kt_drop(state, 1),
    }

    def test_changes(self):
        for name, call in self.CHANGES.items():
            with self.subTest(name):
                state = some_kitchen()
                before = plain(state)
                new, numbers = call(state)
                self.assertIsNotNone(new)
                self.assertIsNot(new, state)
                self.assertGreaterEqual(numbers[0], 0)
                self.assertEqual(plain(new) == before, "all stays" in name)
                self.assertEqual(plain(state), before)

    def test_no_changes(self):
        for name, call in self.OTHERS.items():
            with self.subTest(name):
                state = some_kitchen()
                before = plain(state)
                self.assertIsNone(call(state)[0])
                self.assertEqual(plain(state), before)

    def test_one_behind_another(self):
        states = [some_kitchen()]
        seen = [plain(states[0])]
        for call in self.CHANGES.values():
            states.append(call(states[-1])[0])
            seen.append(plain(states[-1]))
        self.assertEqual([plain(state) for state in states], seen)


if __name__ == "__main__":
    unittest.main()
