"""A list of calls on one kitchen, and their answers."""

from wholekitchen.clock import kt_busy, kt_when
from wholekitchen.cooking import kt_cook
from wholekitchen.goods import kt_buy, kt_good, kt_has, kt_lot, kt_price, kt_throw, kt_totals
from wholekitchen.history import History, begin_anew, kt_again, kt_back, kt_state, make_change
from wholekitchen.lacking import kt_cost, kt_lacks, kt_list
from wholekitchen.meals import kt_meal, kt_move, kt_people, kt_plan, kt_unplan
from wholekitchen.recipes import kt_drop, kt_read, kt_takes, kt_write
from wholekitchen.setting import kt_day, kt_equip, kt_start

KT_START = 0
KT_EQUIP = 1
KT_DAY = 2
KT_GOOD = 3
KT_PRICE = 4
KT_BUY = 5
KT_THROW = 6
KT_HAS = 7
KT_LOT = 8
KT_TOTALS = 9
KT_READ = 10
KT_WRITE = 11
KT_DROP = 12
KT_TAKES = 13
KT_PLAN = 14
KT_MOVE = 15
KT_PEOPLE = 16
KT_UNPLAN = 17
KT_MEAL = 18
KT_LACKS = 19
KT_LIST = 20
KT_COST = 21
KT_COOK = 22
KT_WHEN = 23
KT_BUSY = 24
KT_BACK = 25
KT_AGAIN = 26
KT_STATE = 27

# By the number of a call: how many whole numbers stand behind it, ahead of its row.
WHOLE_NUMBERS = (3, 3, 0, 1, 2, 3, 0, 1, 1, 1, 1, 1, 1, 3, 4, 3, 2, 1, 1, 2, 1, 1, 1, 2, 2, 0, 0, 0)


def size_of_call(calls, at):
    """How many numbers the call has that begins there."""
    number = calls[at]
    size = 1 + WHOLE_NUMBERS[number]
    if number == KT_GOOD or number == KT_READ:
        size += 1 + calls[at + size]
    return size


def outcome_of_setting(state, call):
    if call[0] == KT_EQUIP:
        return kt_equip(state, call[1], call[2], call[3])
    return kt_day(state)


def outcome_of_goods(state, call):
    if call[0] == KT_GOOD:
        return kt_good(state, call[1], call[3:])
    if call[0] == KT_PRICE:
        return kt_price(state, call[1], call[2])
    if call[0] == KT_BUY:
        return kt_buy(state, call[1], call[2], call[3])
    if call[0] == KT_THROW:
        return kt_throw(state)
    if call[0] == KT_HAS:
        return kt_has(state, call[1])
    if call[0] == KT_LOT:
        return kt_lot(state, call[1])
    return kt_totals(state, call[1])


def outcome_of_recipes(state, call):
    if call[0] == KT_READ:
        return kt_read(state, call[1], call[3:])
    if call[0] == KT_WRITE:
        return kt_write(state, call[1])
    if call[0] == KT_DROP:
        return kt_drop(state, call[1])
    return kt_takes(state, call[1], call[2], call[3])


def outcome_of_meals(state, call):
    if call[0] == KT_PLAN:
        return kt_plan(state, call[1], call[2], call[3], call[4])
    if call[0] == KT_MOVE:
        return kt_move(state, call[1], call[2], call[3])
    if call[0] == KT_PEOPLE:
        return kt_people(state, call[1], call[2])
    if call[0] == KT_UNPLAN:
        return kt_unplan(state, call[1])
    return kt_meal(state, call[1])


def outcome_of_lacking(state, call):
    if call[0] == KT_LACKS:
        return kt_lacks(state, call[1], call[2])
    if call[0] == KT_LIST:
        return kt_list(state, call[1])
    return kt_cost(state, call[1])


def outcome_of_cooking(state, call):
    if call[0] == KT_COOK:
        return kt_cook(state, call[1])
    if call[0] == KT_WHEN:
        return kt_when(state, call[1], call[2])
    return kt_busy(state, call[1], call[2])


def outcome_of(state, call):
    if call[0] <= KT_DAY:
        return outcome_of_setting(state, call)
    if call[0] <= KT_TOTALS:
        return outcome_of_goods(state, call)
    if call[0] <= KT_TAKES:
        return outcome_of_recipes(state, call)
    if call[0] <= KT_MEAL:
        return outcome_of_meals(state, call)
    if call[0] <= KT_COST:
        return outcome_of_lacking(state, call)
    return outcome_of_cooking(state, call)


def answer_to_start(history, call):
    outcome = kt_start(call[1], call[2], call[3])
    if outcome[0] is not None:
        begin_anew(history, outcome[0])
    return outcome[1]


def answer_to(history, call):
    """The numbers that are answered to a call; the history goes on with it."""
    if call[0] == KT_START:
        return answer_to_start(history, call)
    if call[0] == KT_BACK:
        return kt_back(history)
    if call[0] == KT_AGAIN:
        return kt_again(history)
    if call[0] == KT_STATE:
        return kt_state(history)
    outcome = outcome_of(history.state, call)
    if outcome[0] is not None:
        make_change(history, outcome[0])
    return outcome[1]


def answers(calls):
    """For each call how many numbers are answered, and these."""
    history = History()
    given = []
    at = 0
    while at < len(calls):
        size = size_of_call(calls, at)
        answer = answer_to(history, calls[at:at + size])
        given.append(len(answer))
        given.extend(answer)
        at += size
    return given
