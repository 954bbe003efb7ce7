"""Calls as they are handed in, and answers call by call."""

from wholekitchen.kitchen import answers

LARGEST = 4294967295


def row(text, length):
    data = text.encode("latin-1") if isinstance(text, str) else bytes(text)
    return list(data[:length]) + [0] * (length - len(data))


def start(hobs=2, ovens=1, hands=1):
    return [0, hobs, ovens, hands]


def equip(hobs, ovens, hands):
    return [1, hobs, ovens, hands]


def day():
    return [2]


def good(name, n=None):
    return [3, len(name) if n is None else n, 8] + row(name, 8)


def price(which, cents):
    return [4, which, cents]


def buy(which, units, last):
    return [5, which, units, last]


def throw():
    return [6]


def has(which):
    return [7, which]


def lot(k):
    return [8, k]


def totals(which):
    return [9, which]


def read(text, n=None):
    return [10, len(text) if n is None else n, 400] + row(text, 400)


def write(recipe):
    return [11, recipe]


def drop(recipe):
    return [12, recipe]


def takes(recipe, which, people):
    return [13, recipe, which, people]


def plan(to, recipe=0, n=1, slot=288):
    return [14, to, recipe, n, slot]


def move(which, to, slot):
    return [15, which, to, slot]


def people(which, n):
    return [16, which, n]


def unplan(which):
    return [17, which]


def meal(which):
    return [18, which]


def lacks(which, to):
    return [19, which, to]


def listed(to):
    return [20, to]


def cost(to):
    return [21, to]


def cook(which):
    return [22, which]


def when(which, step):
    return [23, which, step]


def busy(which, slot):
    return [24, which, slot]


def back():
    return [25]


def again():
    return [26]


def state():
    return [27]


def split(given):
    """One list for each call of what was answered to it."""
    parts = []
    at = 0
    while at < len(given):
        count = given[at]
        parts.append(given[at + 1:at + 1 + count])
        if len(parts[-1]) != count or count < 1:
            raise AssertionError(f"the count at {at} doesn't fit: {count}")
        at += 1 + count
    return parts


def ask(*calls):
    """The answers to these calls on one new kitchen, a list for each."""
    parts = split(answers([number for call in calls for number in call]))
    if len(parts) != len(calls):
        raise AssertionError(f"{len(calls)} calls, {len(parts)} answers")
    return parts


def last(*calls):
    """The answer to the last of these calls."""
    return ask(*calls)[-1]


def firsts(*calls):
    """Of each answer its first number."""
    return [part[0] for part in ask(*calls)]


def text_in(answer):
    """The text that kt_write answered."""
    count = answer[0]
    out = answer[1:]
    if len(out) != 400 or any(out[count:]) or not all(out[:count]):
        raise AssertionError(f"no text with 0 behind it: {answer}")
    return bytes(out[:count]).decode("ascii")


def looks(goods=16, lots=32, recipes=8, meals=12):
    """Questions about all that can be in a kitchen; an empty one answers -2 to each."""
    calls = [lot(k) for k in range(lots + 1)]
    for which in range(goods + 1):
        calls += [has(which), totals(which)]
    for place in range(recipes + 1):
        calls += [write(place)]
        calls += [takes(place, which, 99) for which in range(goods + 1)]
    for place in range(meals + 1):
        calls += [meal(place)]
        calls += [when(place, step) for step in range(9)]
    return calls


def views(today, days=6):
    """Questions about all that can be seen of a kitchen, but how many changes there are."""
    calls = looks(goods=4)
    for to in [today, today + 1, today + days, 10000]:
        calls += [listed(to), cost(to), lacks(0, to), lacks(3, to)]
    for which in range(today + days):
        calls += [busy(which, slot) for slot in range(0, 288, 41)]
    return calls
