"""Changes, taken back and done again."""

from wholekitchen.refusals import NOT_THERE

MOST_BACK = 60


class History:
    """A kitchen's state, and those around it.

    past has the states that the last changes began with, the latest last; ahead has
    those that changes led to which were taken back, the one taken back last at the end.
    """

    def __init__(self):
        self.state = None
        self.past = []
        self.ahead = []


def begin_anew(history, state):
    history.state = state
    history.past = []
    history.ahead = []


def make_change(history, state):
    history.past = history.past + [history.state]
    if len(history.past) > MOST_BACK:
        history.past = history.past[1:]
    history.ahead = []
    history.state = state


def kt_back(history):
    if not history.past:
        return [NOT_THERE]
    history.ahead.append(history.state)
    history.state = history.past.pop()
    return [len(history.past)]


def kt_again(history):
    if not history.ahead:
        return [NOT_THERE]
    history.past.append(history.state)
    history.state = history.ahead.pop()
    return [len(history.ahead)]


def how_many(places):
    return len([kept for kept in places if kept is not None])


def kt_state(history):
    state = history.state
    kept = [len(state.goods), how_many(state.recipes), how_many(state.meals), len(state.lots)]
    return [state.today] + kept + [len(history.past), len(history.ahead)]
