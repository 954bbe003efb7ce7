"""A list of calls on one kitchen, and their answers."""

from wholekitchen.goods import kt_buy, kt_good, kt_has, kt_lot, kt_price, kt_throw, kt_totals
from wholekitchen.recipes import kt_drop, kt_read, kt_takes, kt_write
from wholekitchen.setting import kt_day, kt_equip, kt_start

KT_START = 0
KT_EQUIP = 1
KT_DAY = 2
KT_GOOD = 3
KT_PRICE = 4
KT_BUY = 5
KT_THROW = 6
KT_HAS = 7
KT_LOT = 8
KT_TOTALS = 9
KT_READ = 10
KT_WRITE = 11
KT_DROP = 12
KT_TAKES = 13

# By the number of a call: how many whole numbers stand behind it, ahead of its row.
WHOLE_NUMBERS = (3, 3, 0, 1, 2, 3, 0, 1, 1, 1, 1, 1, 1, 3)


def size_of_call(calls, at):
    """How many numbers the call has that begins there."""
    number = calls[at]
    size = 1 + WHOLE_NUMBERS[number]
    if number == KT_GOOD or number == KT_READ:
        size += 1 + calls[at + size]
    return size


def outcome_of_setting(state, call):
    if call[0] == KT_START:
        return kt_start(call[1], call[2], call[3])
    if call[0] == KT_EQUIP:
        return kt_equip(state, call[1], call[2], call[3])
    return kt_day(state)


def outcome_of_goods(state, call):
    if call[0] == KT_GOOD:
        return kt_good(state, call[1], call[3:])
    if call[0] == KT_PRICE:
        return kt_price(state, call[1], call[2])
    if call[0] == KT_BUY:
        return kt_buy(state, call[1], call[2], call[3])
    if call[0] == KT_THROW:
        return kt_throw(state)
    if call[0] == KT_HAS:
        return kt_has(state, call[1])
    if call[0] == KT_LOT:
        return kt_lot(state, call[1])
    return kt_totals(state, call[1])


def outcome_of_recipes(state, call):
    if call[0] == KT_READ:
        return kt_read(state, call[1], call[3:])
    if call[0] == KT_WRITE:
        return kt_write(state, call[1])
    if call[0] == KT_DROP:
        return kt_drop(state, call[1])
    return kt_takes(state, call[1], call[2], call[3])


def outcome_of(state, call):
    if call[0] <= KT_DAY:
        return outcome_of_setting(state, call)
    if call[0] <= KT_TOTALS:
        return outcome_of_goods(state, call)
    return outcome_of_recipes(state, call)


def answers(calls):
    """For each call how many numbers are answered, and these."""
    state = None
    given = []
    at = 0
    while at < len(calls):
        size = size_of_call(calls, at)
        outcome = outcome_of(state, calls[at:at + size])
        if outcome[0] is not None:
            state = outcome[0]
        given.append(len(outcome[1]))
        given.extend(outcome[1])
        at += size
    return given
