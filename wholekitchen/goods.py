"""Goods, and the lots they lie in."""

from wholekitchen.outcomes import changed, refused, told
from wholekitchen.refusals import ALREADY_SO, NO_ROOM, NOT_THERE, OUT_OF_RANGE, TOO_MUCH
from wholekitchen.signs import LONGEST_NAME, is_name, text_of
from wholekitchen.state import Good, Lot, copy_of, is_to_come, names_of_goods

MOST_GOODS = 16
MOST_CENTS = 100000
MOST_LOTS = 32
MOST_UNITS = 1000000
MOST_BOUGHT = 100000000


def has_good(state, good):
    return good < len(state.goods)


def usable_today(state, good):
    return sum([lot.units for lot in state.lots if lot.good == good and state.today <= lot.last])


def lots_with(lots, lot):
    """The lots in their order, with one that came last of all."""
    ahead = [other for other in lots if other.last <= lot.last]
    behind = [other for other in lots if other.last > lot.last]
    return ahead + [lot] + behind


def lots_without(lots, good, units, day):
    """The lots when so many units of a good are taken on a day, and how many units are not found.

    They are taken from the first lots on that may be used that day; lots in which nothing is left are gone.
    """
    left = []
    for lot in lots:
        if lot.good != good or day > lot.last:
            left.append(lot)
            continue
        share = min(units, lot.units)
        units -= share
        if share < lot.units:
            left.append(Lot(good, lot.units - share, lot.last))
    return (left, units)


def kt_good(state, n, name):
    if n > LONGEST_NAME:
        return refused(OUT_OF_RANGE)
    word = text_of(name[:n])
    if not is_name(word):
        return refused(OUT_OF_RANGE)
    if word in names_of_goods(state):
        return refused(ALREADY_SO)
    if len(state.goods) == MOST_GOODS:
        return refused(NO_ROOM)
    new = copy_of(state)
    new.goods.append(Good(word, 0, 0, 0, 0))
    return changed(new, [len(state.goods)])


def kt_price(state, good, cents):
    if not has_good(state, good):
        return refused(NOT_THERE)
    if cents > MOST_CENTS:
        return refused(OUT_OF_RANGE)
    new = copy_of(state)
    new.goods[good].price = cents
    return changed(new, [0])


def kt_buy(state, good, units, last):
    if not has_good(state, good):
        return refused(NOT_THERE)
    if units < 1 or units > MOST_UNITS or not is_to_come(state, last):
        return refused(OUT_OF_RANGE)
    if len(state.lots) == MOST_LOTS:
        return refused(NO_ROOM)
    if state.goods[good].bought + units > MOST_BOUGHT:
        return refused(TOO_MUCH)
    new = copy_of(state)
    new.goods[good].bought += units
    new.lots = lots_with(state.lots, Lot(good, units, last))
    return changed(new, [usable_today(new, good)])


def kt_throw(state):
    old = [lot for lot in state.lots if lot.last < state.today]
    if not old:
        return told([0])
    new = copy_of(state)
    new.lots = [lot for lot in state.lots if lot.last >= state.today]
    for lot in old:
        new.goods[lot.good].thrown += lot.units
    return changed(new, [len(old)])


def kt_has(state, good):
    if not has_good(state, good):
        return refused(NOT_THERE)
    return told([usable_today(state, good)])


def kt_lot(state, k):
    if k >= len(state.lots):
        return refused(NOT_THERE)
    lot = state.lots[k]
    return told([len(state.lots), lot.good, lot.units, lot.last])


def kt_totals(state, good):
    if not has_good(state, good):
        return refused(NOT_THERE)
    which = state.goods[good]
    return told([0, which.bought, which.used, which.thrown, which.price])
