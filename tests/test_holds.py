"""What holds, over many kitchens that are drawn, always the same ones."""

import random
import unittest

from tests.helper import ask, buy, day, drop, good, has, lot, read, start, takes, text_in, throw, totals, write

NAMES = ["rice", "oil", "salt"]
GOODS = [start()] + [good(name) for name in NAMES]


def drawn_stores(draw):
    calls = []
    today = 0
    for _ in range(draw.randrange(90)):
        what = draw.randrange(8)
        if what == 0:
            calls.append(day())
            today += 1
        elif what == 1:
            calls.append(throw())
        else:
            calls.append(buy(draw.randrange(4), draw.randrange(1001), today + draw.randrange(9) - 1 if today else 0))
    return calls, today


def drawn_recipe(draw):
    """A text that is a recipe, with blanks and empty lines here and there, its lines in some order."""
    lines = [f"take {draw.randrange(1, 10000)} {name}" for name in draw.sample(NAMES, draw.randrange(4))]
    lines.append(f"serves {draw.randrange(1, 100)}")
    draw.shuffle(lines)
    told = []
    for name in draw.sample(["boil", "bake", "wash", "after", "lay"], draw.randrange(1, 6)):
        after = draw.sample(told, draw.randrange(len(told) + 1))
        line = f"step {name} {draw.randrange(1, 101)} {draw.choice(['hob', 'oven', 'hand'])}"
        told.append(name)
        lines.insert(draw.randrange(len(lines) + 1) if len(told) == 1 else len(lines),
                     line + (" after " + " ".join(after) if after else ""))
    text = ""
    for line in lines:
        text += "\n" * draw.randrange(2) + " " * draw.randrange(2) + line.replace(" ", " " * draw.randrange(1, 3)) + "\n"
    return text


class Holds(unittest.TestCase):
    def test_nothing_is_lost(self):
        draw = random.Random(1)
        for _ in range(200):
            calls, today = drawn_stores(draw)
            seen = ask(*GOODS, *calls, *[lot(k) for k in range(33)], *[totals(k) for k in range(3)],
                       *[has(k) for k in range(3)])
            lots = [part[1:] for part in seen[-39:-6] if part != [-2]]
            self.assertLessEqual(len(lots), 32)
            self.assertEqual([part[2] for part in lots], sorted(part[2] for part in lots))
            for which in range(3):
                there = [part for part in lots if part[0] == which]
                total = seen[-6 + which]
                self.assertEqual(total[1], total[2] + total[3] + sum(part[1] for part in there))
                self.assertEqual(seen[-3 + which], [sum(part[1] for part in there if part[2] >= today)])

    def test_read_as_it_was_written(self):
        draw = random.Random(2)
        for _ in range(300):
            text = drawn_recipe(draw)
            if len(text) > 400:
                continue
            seen = ask(*GOODS, read(text), write(0))
            self.assertEqual(seen[-2], [0], text)
            out = text_in(seen[-1])
            self.assertLessEqual(len(out), len(text))
            again = [takes(place, which, people) for place in (0, 1) for which in range(3) for people in (1, 7, 99)]
            seen = ask(*GOODS, read(text), read(out), write(1), *again)
            self.assertEqual(text_in(seen[6]), out)
            self.assertEqual(seen[7:16], seen[16:])
            words = [line.split() for line in text.split("\n") if line.split()]
            order = ["serves", "take", "step"]
            due = [" ".join(line) for line in sorted(words, key=lambda line: order.index(line[0]))]
            self.assertEqual(out, "".join(line + "\n" for line in due))

    def test_broken_recipes(self):
        # One byte out of place leaves a text that is read as what it then says, or not at all: never another answer.
        draw = random.Random(3)
        for _ in range(500):
            text = list(drawn_recipe(draw).encode()[:400])
            text[draw.randrange(len(text))] = draw.choice([0, 9, 10, 13, 32, 48, 49, 97, 122, 255])
            seen = ask(*GOODS, read(text), write(0), drop(0))
            self.assertIn(seen[4], [[0], [-71]])
            if seen[4] == [0]:
                out = text_in(seen[5])
                self.assertEqual(sorted(bytes(text).split()), sorted(out.encode().split()))
            else:
                self.assertEqual(seen[5:], [[-2], [-2]])

    def test_more_people_no_less(self):
        draw = random.Random(4)
        for _ in range(40):
            serves = draw.randrange(1, 100)
            units = draw.choice([1, 2, serves, 9999, draw.randrange(1, 10000)])
            text = f"serves {serves}\ntake {units} oil\nstep a 1 hob\n"
            seen = ask(*GOODS, read(text), *[takes(0, 1, people) for people in range(1, 100)])[5:]
            taken = [0] + [part[0] for part in seen]
            for people in range(1, 100):
                self.assertGreaterEqual(taken[people], taken[people - 1])
                self.assertTrue(units * people <= taken[people] * serves < units * people + serves)
                some = draw.randrange(people + 1)
                self.assertLessEqual(taken[people], taken[some] + taken[people - some])
            self.assertEqual(taken[serves], units)


if __name__ == "__main__":
    unittest.main()
