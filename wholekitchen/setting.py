"""What a kitchen has to cook with, and its days."""

from wholekitchen.outcomes import changed, refused
from wholekitchen.refusals import NO_ROOM, OUT_OF_RANGE
from wholekitchen.state import LAST_DAY, State, copy_of

MOST_HOBS = 6
MOST_OVENS = 4
MOST_HANDS = 6


def can_be_equipped(hobs, ovens, hands):
    return hobs <= MOST_HOBS and ovens <= MOST_OVENS and 1 <= hands <= MOST_HANDS


def kt_start(hobs, ovens, hands):
    if not can_be_equipped(hobs, ovens, hands):
        return refused(OUT_OF_RANGE)
    return changed(State(hobs, ovens, hands), [0])


def kt_equip(state, hobs, ovens, hands):
    if not can_be_equipped(hobs, ovens, hands):
        return refused(OUT_OF_RANGE)
    new = copy_of(state)
    new.hobs = hobs
    new.ovens = ovens
    new.hands = hands
    return changed(new, [0])


def kt_day(state):
    if state.today == LAST_DAY:
        return refused(NO_ROOM)
    new = copy_of(state)
    new.today = state.today + 1
    return changed(new, [new.today])
