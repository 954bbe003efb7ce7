"""What holds, over many kitchens that are drawn, always the same ones."""

import random
import unittest

from tests.helper import (again, ask, back, busy, buy, cook, cost, day, drop, equip, good, has, lacks, listed, lot, meal,
                          move, people, plan, price, read, start, state, takes, text_in, throw, totals, unplan, views,
                          when, write)

NAMES = ["rice", "oil", "salt"]
GOODS = [start()] + [good(name) for name in NAMES]


def drawn_stores(draw):
    calls = []
    today = 0
    for _ in range(draw.randrange(90)):
        what = draw.randrange(8)
        if what == 0:
            calls.append(day())
            today += 1
        elif what == 1:
            calls.append(throw())
        else:
            calls.append(buy(draw.randrange(4), draw.randrange(1001), today + draw.randrange(9) - 1 if today else 0))
    return calls, today


def drawn_recipe(draw):
    """A text that is a recipe, with blanks and empty lines here and there, its lines in some order."""
    lines = [f"take {draw.randrange(1, 10000)} {name}" for name in draw.sample(NAMES, draw.randrange(4))]
    lines.append(f"serves {draw.randrange(1, 100)}")
    draw.shuffle(lines)
    told = []
    for name in draw.sample(["boil", "bake", "wash", "after", "lay"], draw.randrange(1, 6)):
        after = draw.sample(told, draw.randrange(len(told) + 1))
        line = f"step {name} {draw.randrange(1, 101)} {draw.choice(['hob', 'oven', 'hand'])}"
        told.append(name)
        lines.insert(draw.randrange(len(lines) + 1) if len(told) == 1 else len(lines),
                     line + (" after " + " ".join(after) if after else ""))
    text = ""
    for line in lines:
        text += "\n" * draw.randrange(2) + " " * draw.randrange(2) + line.replace(" ", " " * draw.randrange(1, 3)) + "\n"
    return text


def drawn_change(draw, today):
    """A call that is a change if it isn't refused; mostly it isn't."""
    some = draw.randrange
    return draw.choice([
        lambda: equip(some(4), some(3), 1 + some(3)),
        day,
        lambda: good(draw.choice(NAMES + ["flour"])),
        lambda: price(some(4), some(3000)),
        lambda: buy(some(3), 1 + some(40), today + some(6)),
        lambda: buy(some(3), 1 + some(40), today + some(6)),
        throw,
        lambda: read(drawn_recipe(draw)[:400]),
        lambda: drop(some(4)),
        lambda: plan(today + some(4), some(3), 1 + some(5), 1 + some(288)),
        lambda: plan(today, some(3), 1 + some(5), 1 + some(288)),
        lambda: move(some(6), today + some(4), 1 + some(288)),
        lambda: people(some(6), 1 + some(9)),
        lambda: unplan(some(12)),
        lambda: cook(some(6)),
        lambda: cook(some(6)),
    ])()


def is_change(call, answer):
    return answer > 0 if call == throw() else answer >= 0


def drawn_calls(draw, count):
    """Changes, refused ones among them, with small recipes to begin with; and what was answered to them."""
    calls = GOODS + [read("serves 2\ntake 5 rice\ntake 3 oil\nstep a 9 hob\nstep b 30 oven after a\n"),
                     read("serves 3\ntake 8 salt\nstep a 20 hand\nstep b 50 hob\n")]
    for _ in range(count):
        today = ask(*calls, state())[-1][0]
        calls = calls + [drawn_change(draw, today)]
    return calls


class Holds(unittest.TestCase):
    def test_nothing_is_lost(self):
        draw = random.Random(1)
        for _ in range(200):
            calls, today = drawn_stores(draw)
            seen = ask(*GOODS, *calls, *[lot(k) for k in range(33)], *[totals(k) for k in range(3)],
                       *[has(k) for k in range(3)])
            lots = [part[1:] for part in seen[-39:-6] if part != [-2]]
            self.assertLessEqual(len(lots), 32)
            self.assertEqual([part[2] for part in lots], sorted(part[2] for part in lots))
            for which in range(3):
                there = [part for part in lots if part[0] == which]
                total = seen[-6 + which]
                self.assertEqual(total[1], total[2] + total[3] + sum(part[1] for part in there))
                self.assertEqual(seen[-3 + which], [sum(part[1] for part in there if part[2] >= today)])

    def test_read_as_it_was_written(self):
        draw = random.Random(2)
        for _ in range(300):
            text = drawn_recipe(draw)
            if len(text) > 400:
                continue
            seen = ask(*GOODS, read(text), write(0))
            self.assertEqual(seen[-2], [0], text)
            out = text_in(seen[-1])
            self.assertLessEqual(len(out), len(text))
            again = [takes(place, which, people) for place in (0, 1) for which in range(3) for people in (1, 7, 99)]
            seen = ask(*GOODS, read(text), read(out), write(1), *again)
            self.assertEqual(text_in(seen[6]), out)
            self.assertEqual(seen[7:16], seen[16:])
            words = [line.split() for line in text.split("\n") if line.split()]
            order = ["serves", "take", "step"]
            due = [" ".join(line) for line in sorted(words, key=lambda line: order.index(line[0]))]
            self.assertEqual(out, "".join(line + "\n" for line in due))

    def test_broken_recipes(self):
        # One byte out of place leaves a text that is read as what it then says, or not at all: never another answer.
        draw = random.Random(3)
        for _ in range(500):
            text = list(drawn_recipe(draw).encode()[:400])
            text[draw.randrange(len(text))] = draw.choice([0, 9, 10, 13, 32, 48, 49, 97, 122, 255])
            seen = ask(*GOODS, read(text), write(0), drop(0))
            self.assertIn(seen[4], [[0], [-71]])
            if seen[4] == [0]:
                out = text_in(seen[5])
                self.assertEqual(sorted(bytes(text).split()), sorted(out.encode().split()))
            else:
                self.assertEqual(seen[5:], [[-2], [-2]])

    def test_more_people_no_less(self):
        draw = random.Random(4)
        for _ in range(40):
            serves = draw.randrange(1, 100)
            units = draw.choice([1, 2, serves, 9999, draw.randrange(1, 10000)])
            text = f"serves {serves}\ntake {units} oil\nstep a 1 hob\n"
            seen = ask(*GOODS, read(text), *[takes(0, 1, people) for people in range(1, 100)])[5:]
            taken = [0] + [part[0] for part in seen]
            for people in range(1, 100):
                self.assertGreaterEqual(taken[people], taken[people - 1])
                self.assertTrue(units * people <= taken[people] * serves < units * people + serves)
                some = draw.randrange(people + 1)
                self.assertLessEqual(taken[people], taken[some] + taken[people - some])
            self.assertEqual(taken[serves], units)


class NothingIsLost(unittest.TestCase):
    def test_whatever_is_done(self):
        draw = random.Random(5)
        used = 0
        for _ in range(40):
            calls = drawn_calls(draw, 60)
            calls += [draw.choice([back, back, again])() for _ in range(draw.randrange(20))]
            seen = ask(*calls, *[totals(k) for k in range(4)], *[lot(k) for k in range(33)])
            lots = [part[1:] for part in seen[-33:] if part != [-2]]
            self.assertEqual([part[2] for part in lots], sorted(part[2] for part in lots))
            self.assertTrue(all(part[1] > 0 for part in lots))
            for which, total in enumerate(seen[-37:-33]):
                there = sum(part[1] for part in lots if part[0] == which)
                if total != [-2]:
                    self.assertEqual(total[1], total[2] + total[3] + there)
                    used += total[2]
        self.assertGreater(used, 0)


class TakenBack(unittest.TestCase):
    def test_as_if_only_what_is_left_had_been_done(self):
        draw = random.Random(6)
        for _ in range(60):
            calls = drawn_calls(draw, draw.randrange(90))
            for _ in range(draw.randrange(60)):
                calls.append(draw.choice([back, back, again, again, day, lambda: price(1, draw.randrange(9)), throw,
                                          lambda: has(draw.randrange(5)), lambda: plan(draw.randrange(9), 0)])())
            self.hold(calls)

    def hold(self, calls):
        """The same is seen if changes that were taken back are left out, and those done again come where they were."""
        done = []
        ahead = []
        for call, part in zip(calls[1:], ask(*calls)[1:]):
            if call == back() and part != [-2]:
                ahead.append(done.pop())
            elif call == again() and part != [-2]:
                done.append(ahead.pop())
            elif 7 <= call[0] <= 9 or call[0] in (25, 26):
                pass
            elif is_change(call, part[0]):
                done.append(call)
                ahead = []
        seen = ask(*calls, state())[-1]
        self.assertEqual(seen[6], len(ahead))
        self.assertLessEqual(seen[5], min(60, len(done)))
        questions = views(seen[0])
        self.assertEqual(ask(*calls, *questions)[len(calls):], ask(calls[0], *done, *questions)[1 + len(done):])

    def test_all_that_was_seen_is_seen_again(self):
        draw = random.Random(7)
        for _ in range(6):
            calls = drawn_calls(draw, 60)
            parts = ask(*calls)
            made = [calls[:k + 1] for k in range(len(calls)) if k and is_change(calls[k], parts[k][0])]
            kept = [calls[:1]] + made
            for k in range(min(60, len(made)) + 1):
                before = kept[len(made) - k]
                today = ask(*before, state())[-1][0]
                due = ask(*before, *views(today))[len(before):]
                taken = calls + [back()] * k
                self.assertEqual(ask(*taken, *views(today))[len(taken):], due)
                done = calls + [back()] * min(60, len(made)) + [again()] * (min(60, len(made)) - k)
                self.assertEqual(ask(*done, *views(today))[len(done):], due)


class Bought(unittest.TestCase):
    """Bought as told, all can be cooked; and no less is enough."""

    def drawn(self, draw):
        """A kitchen at some day, with stores and meals, none of them out of time."""
        calls = GOODS + [price(k, draw.randrange(3000)) for k in range(3)]
        for _ in range(3):
            lines = [f"take {draw.randrange(1, 60)} {name}\n" for name in draw.sample(NAMES, draw.randrange(4))]
            calls.append(read(f"serves {draw.randrange(1, 5)}\n" + "".join(lines) + "step a 1 hob\n"))
        calls += [buy(draw.randrange(3), draw.randrange(1, 90), draw.randrange(9)) for _ in range(draw.randrange(12))]
        calls += [plan(draw.randrange(9), draw.randrange(3), draw.randrange(1, 5)) for _ in range(draw.randrange(13))]
        for _ in range(draw.randrange(4)):
            calls += [cook(draw.randrange(12)) for _ in range(draw.randrange(4))] + [day()]
        return calls

    def looked_at(self, calls):
        """Today; lots as good, units and last day; meals, if they aren't cooked, as place, day, and what each needs."""
        seen = ask(*calls, state(), *[lot(k) for k in range(32)], *[meal(k) for k in range(12)])[len(calls):]
        lots = [part[1:] for part in seen[1:33] if part != [-2]]
        meals = [(place, part) for place, part in enumerate(seen[33:]) if part != [-2] and part[0] == 0]
        needs = [takes(part[2], which, part[3]) for place, part in meals for which in range(3)]
        needed = [part[0] for part in ask(*calls, *needs)[len(calls):]]
        return seen[0][0], lots, [(place, part[1], needed[3 * k:3 * k + 3]) for k, (place, part) in enumerate(meals)]

    def least(self, lots, meals, which, today, to):
        """The least that must be bought: of the meals from some day on, what the lots can't give that last so long."""
        least = 0
        for first in range(today, to + 1):
            need = sum(needs[which] for place, when_, needs in meals if first <= when_ <= to)
            least = max(least, need - sum(units for good_, units, end in lots if good_ == which and end >= first))
        return least

    def cooked(self, draw, calls, meals, today, to):
        """What is answered to the meals, cooked day by day to that day, on each in some order."""
        calls = list(calls)
        at = []
        for when_ in range(today, to + 1):
            places = [place for place, due, needs in meals if due == when_]
            draw.shuffle(places)
            at += range(len(calls), len(calls) + len(places))
            calls += [cook(place) for place in places] + [day()]
        parts = ask(*calls)
        return [parts[k][0] for k in at]

    def test_bought_as_told(self):
        draw = random.Random(8)
        lacked = 0
        for _ in range(300):
            calls = self.drawn(draw)
            today, lots, meals = self.looked_at(calls)
            to = today + draw.randrange(6)
            due = [self.least(lots, meals, which, today, to) for which in range(3)]
            seen = ask(*calls, listed(to), *[lacks(which, to) for which in range(3)], cost(to),
                       *[totals(which) for which in range(3)])[len(calls):]
            self.assertEqual(seen[0], [len([units for units in due if units])] + due + [0] * 13)
            self.assertEqual(seen[1:4], [[units] for units in due])
            self.assertEqual(seen[4], [0, sum(-(-units * part[4] // 1000) for units, part in zip(due, seen[5:]))])
            bought = calls + [buy(which, units, to) for which, units in enumerate(due) if units]
            self.assertTrue(all(answer >= 0 for answer in self.cooked(draw, bought, meals, today, to)))
            for which in [which for which in range(3) if due[which]]:
                lacked += 1
                fewer = [due[k] - (k == which) for k in range(3)]
                bought = calls + [buy(k, units, to) for k, units in enumerate(fewer) if units]
                self.assertIn(-61, self.cooked(draw, bought, meals, today, to))
        self.assertGreater(lacked, 100)


class Clock(unittest.TestCase):
    def drawn(self, draw):
        """What there is to cook at, texts of recipes, and meals as day, recipe, people and slot."""
        room = {"hob": draw.randrange(7), "oven": draw.randrange(5), "hand": draw.randrange(1, 7)}
        if draw.randrange(3):
            room = {"hob": draw.randrange(1, 3), "oven": draw.randrange(1, 3), "hand": draw.randrange(1, 3)}
        recipes = []
        for _ in range(draw.randrange(1, 5)):
            steps = []
            for number in range(draw.randrange(1, 9)):
                steps.append((draw.randrange(1, draw.choice([4, 12, 30, 101])), draw.choice(["hob", "oven", "hand"]),
                              draw.sample(range(number), draw.randrange(min(number, 3) + 1))))
            recipes.append(steps)
        spread = draw.choice([1, 4, 40, 287])
        slots = draw.choice([20, 90, 288])
        meals = [(draw.randrange(2), draw.randrange(len(recipes)), 1,
                  max(1, slots - draw.randrange(spread))) for _ in range(draw.randrange(13))]
        return room, recipes, meals

    def text(self, steps):
        lines = [f"step {'abcdefgh'[number]} {slots} {where}" + (" after " + " ".join("abcdefgh"[k] for k in after)
                                                                 if after else "")
                 for number, (slots, where, after) in enumerate(steps)]
        return "\n".join(["serves 1"] + lines) + "\n"

    def begins(self, room, recipes, meals, which):
        """When each step begins on a day, found by trying slot by slot from the latest down."""
        laid = {}
        for slot, place in sorted((slot, place) for place, (on, recipe, n, slot) in enumerate(meals) if on == which):
            steps = recipes[meals[place][1]]
            mine = {}
            for number in reversed(range(len(steps))):
                slots, where, after = steps[number]
                end = min([slot] + [mine[k][0] for k in mine if number in steps[k][2]])
                for begin in range(end - slots, -1, -1):
                    there = [other for other in list(laid.values()) + list(mine.values()) if other[2] == where]
                    if all(sum(first <= at < first + long for first, long, at_ in there) < room[where]
                           for at in range(begin, begin + slots)):
                        mine[number] = (begin, slots, where)
                        break
                else:
                    break
            if len(mine) == len(steps):
                laid.update({(place, number): mine[number] for number in mine})
        return laid

    def test_by_the_clock(self):
        draw = random.Random(9)
        held = {"laid": 0, "not": 0}
        for _ in range(80):
            room, recipes, meals = self.drawn(draw)
            calls = [start(room["hob"], room["oven"], room["hand"])] + [read(self.text(steps)) for steps in recipes]
            calls += [plan(*planned) for planned in meals]
            questions = [(place, number) for place, planned in enumerate(meals)
                         for number in range(len(recipes[planned[1]]))]
            parts = ask(*calls, *[when(*question) for question in questions])[len(calls):]
            told = {question: part[0] for question, part in zip(questions, parts)}
            self.assertTrue(all(part[0] >= 0 or part == [-33] for part in parts))
            self.hold_in_time(recipes, meals, told)
            laid = {}
            for which in (0, 1):
                due = self.begins(room, recipes, meals, which)
                laid.update({question: due[question][0] for question in due})
                self.hold_room(calls, room, due, which)
            self.assertEqual(told, {question: laid.get(question, -33) for question in questions})
            held["laid"] += len(laid)
            held["not"] += len(questions) - len(laid)
        self.assertGreater(min(held.values()), 300)

    def hold_in_time(self, recipes, meals, told):
        """Each step is done by its meal's slot and before what comes behind it; of a meal each is told when, or none."""
        for place, (on, recipe, n, slot) in enumerate(meals):
            steps = recipes[recipe]
            begins = [told[(place, number)] for number in range(len(steps))]
            if -33 in begins:
                self.assertEqual(set(begins), {-33})
                continue
            for number, (slots, where, after) in enumerate(steps):
                self.assertLessEqual(begins[number] + slots, slot)
                for ahead in after:
                    self.assertLessEqual(begins[ahead] + steps[ahead][0], begins[number])

    def hold_room(self, calls, room, due, which):
        """At no slot more is in use than there is, and just what is laid there."""
        parts = ask(*calls, *[busy(which, slot) for slot in range(288)])[len(calls):]
        for slot, part in enumerate(parts):
            there = [where for begin, slots, where in due.values() if begin <= slot < begin + slots]
            self.assertEqual(part, [len(due)] + [there.count(where) for where in ("hob", "oven", "hand")])
            self.assertTrue(all(there.count(where) <= room[where] for where in room))


if __name__ == "__main__":
    unittest.main()
