"""Point 6: kt_read, kt_write, kt_drop and kt_takes."""

import unittest

from tests.helper import LARGEST, ask, drop, firsts, good, last, read, start, takes, text_in, write
from wholekitchen.recipes import kt_drop
from wholekitchen.state import Meal, Recipe, State, Step

NAMES = ["rice", "oil", "salt", "a", "b", "c", "d", "e", "f", "take"]
GOODS = [start()] + [good(name) for name in NAMES]
LEAST = "serves 1\nstep a 1 hob\n"
DINNER = ("serves 4\ntake 300 rice\ntake 20 oil\nstep wash 1 hand\nstep boil 4 hob after wash\n"
          "step bake 12 oven\nstep lay 2 hand after bake boil\n")


def taking(count):
    return "".join(f"take {k + 1} {NAMES[k]}\n" for k in range(count))


def stepping(count):
    return "".join(f"step s{'abcdefghi'[k]} {k + 1} hob\n" for k in range(count))


class RecipeCase(unittest.TestCase):
    def is_recipe(self, text, written=None):
        """The text is read, and written as told (as it was, where nothing else is told)."""
        seen = ask(*GOODS, read(text), write(0))
        self.assertEqual(seen[-2], [0], text)
        out = text_in(seen[-1])
        self.assertEqual(out, text if written is None else written)
        self.assertLessEqual(len(out), len(text))
        self.assertEqual(text_in(last(*GOODS, read(out), write(0))), out)

    def is_none(self, text):
        self.assertEqual(ask(*GOODS, read(text), write(0))[-2:], [[-71], [-2]], text)


class Lines(RecipeCase):
    def test_ordinary(self):
        self.is_recipe(LEAST)
        self.is_recipe(DINNER)

    def test_each_line_has_its_end(self):
        self.is_none("serves 1\nstep a 1 hob")
        self.is_none("serves 1\nstep a 1 hob\n ")
        self.is_none("serves 1\nstep a 1 hob\n\nx")
        self.is_none("serves 1 step a 1 hob\n")
        self.is_none("\n" + LEAST[:-1])

    def test_empty(self):
        for text in ["", "\n", " ", " \n", "\n\n\n", "   \n \n"]:
            with self.subTest(text):
                self.is_none(text)

    def test_blanks(self):
        self.is_recipe("  serves   1 \n step  a 1    hob  \n", LEAST)
        self.is_recipe(" serves 1\nstep a 1 hob \n", LEAST)
        self.is_recipe("serves 1\nstep a 1 hob\nstep b 1 hob  after   a \n", LEAST + "step b 1 hob after a\n")

    def test_empty_lines(self):
        self.is_recipe("\n\nserves 1\n\n   \nstep a 1 hob\n\n", LEAST)

    def test_any_order(self):
        self.is_recipe("step a 1 hob\ntake 5 oil\nserves 9\nstep b 2 oven after a\ntake 7 rice\n",
                       "serves 9\ntake 5 oil\ntake 7 rice\nstep a 1 hob\nstep b 2 oven after a\n")

    def test_lines_as_they_were_told(self):
        self.is_recipe("serves 2\ntake 1 salt\ntake 2 oil\ntake 3 rice\nstep z 1 hob\nstep y 1 oven\nstep x 1 hand\n")

    def test_other_bytes(self):
        # In the middle of a name, and at a line's end: only a letter, a blank or a line's end could do there.
        for byte in range(256):
            with self.subTest(byte):
                text = list(b"serves 1\nstep a") + [byte] + list(b"a 1 hob\n")
                due = [0] if 97 <= byte <= 122 else [-71]
                self.assertEqual(last(*GOODS, read(text)), due)
                text = list(b"serves 1\nstep a 1 hob") + [byte] + list(b"\n")
                due = [0] if byte in (10, 32) else [-71]
                self.assertEqual(last(*GOODS, read(text)), due)
                text = list(b"serves 1") + [byte] + list(b"\nstep a 1 hob\n")
                due = [0] if byte in (10, 32) or 48 <= byte <= 57 else [-71]
                self.assertEqual(last(*GOODS, read(text)), due)

    def test_words_must_stand_apart(self):
        self.is_none("serves1\nstep a 1 hob\n")
        self.is_none("serves 1\nstep a1 hob\n")
        self.is_none("serves 1\nstep a 1hob\n")
        self.is_none("serves\n1\nstep a 1 hob\n")

    def test_other_words(self):
        for line in ["serve 1\n", "x\n", "Step b 1 hob\n", "steps b 1 hob\n", "takes 1 oil\n", "after a\n", "1\n",
                     "hob\n", "serves\n", "take\n", "step\n", "?\n", "tak 1 oil\n", "ste b 1 hob\n"]:
            with self.subTest(line):
                self.is_none(LEAST + line)
                self.is_none(line + LEAST)


class Serves(RecipeCase):
    def test_numbers(self):
        for number in ["1", "9", "10", "98", "99"]:
            with self.subTest(number):
                self.is_recipe(f"serves {number}\nstep a 1 hob\n")
        for number in ["0", "01", "099", "100", "101", "9999", "10000", "9" * 300, "", "x", "1x", "x1", "-1", "+1",
                       "1.0", "1_0", "4294967297"]:
            with self.subTest(number):
                self.is_none(f"serves {number}\nstep a 1 hob\n")

    def test_must_be_there(self):
        self.is_none("step a 1 hob\n")
        self.is_none("take 3 oil\nstep a 1 hob\n")

    def test_once(self):
        self.is_none("serves 1\nserves 1\nstep a 1 hob\n")
        self.is_none("serves 1\nstep a 1 hob\nserves 2\n")
        self.is_none("serves 0\nserves 1\nstep a 1 hob\n")
        self.is_none("serves 1\nserves 100\nstep a 1 hob\n")

    def test_nothing_behind(self):
        self.is_none("serves 1 2\nstep a 1 hob\n")
        self.is_none("serves 1 people\nstep a 1 hob\n")


class Take(RecipeCase):
    def test_numbers(self):
        for number in ["1", "10", "100", "1000", "9999"]:
            with self.subTest(number):
                self.is_recipe(f"serves 1\ntake {number} oil\nstep a 1 hob\n")
        for number in ["0", "01", "0100", "09999", "10000", "99999", "4294967297", "x", "1x", "-1"]:
            with self.subTest(number):
                self.is_none(f"serves 1\ntake {number} oil\nstep a 1 hob\n")

    def test_goods_must_be_known(self):
        self.is_none("serves 1\ntake 1 sugar\nstep a 1 hob\n")
        self.is_none("serves 1\ntake 1 oi\nstep a 1 hob\n")
        self.is_none("serves 1\ntake 1 Oil\nstep a 1 hob\n")
        text = "serves 1\ntake 1 sugar\nstep a 1 hob\n"
        self.assertEqual(firsts(start(), read(text), good("sugar"), read(text)), [0, -71, 0, 0])

    def test_of_each_good_once(self):
        self.is_none("serves 1\ntake 1 oil\ntake 1 oil\nstep a 1 hob\n")
        self.is_none("serves 1\ntake 1 oil\ntake 5 rice\nstep a 1 hob\ntake 2 oil\n")

    def test_eight_lines(self):
        self.is_recipe("serves 1\n" + taking(8) + "step a 1 hob\n")
        self.is_none("serves 1\n" + taking(9) + "step a 1 hob\n")

    def test_how_many_words(self):
        for line in ["take\n", "take 1\n", "take oil\n", "take oil 1\n", "take 1 oil 1\n", "take 1 oil oil\n",
                     "take 1 oil after a\n"]:
            with self.subTest(line):
                self.is_none(LEAST + line)

    def test_goods_called_like_other_words(self):
        self.is_recipe("serves 1\ntake 3 take\nstep a 1 hob\n")


class Steps(RecipeCase):
    def test_must_be_there(self):
        self.is_none("serves 1\n")
        self.is_none("serves 1\ntake 1 oil\n")

    def test_slots(self):
        for number in ["1", "9", "99", "100"]:
            with self.subTest(number):
                self.is_recipe(f"serves 1\nstep a {number} hob\n")
        for number in ["0", "01", "0100", "101", "1000", "9999", "10000", "x", "1x", "-1", "4294967297"]:
            with self.subTest(number):
                self.is_none(f"serves 1\nstep a {number} hob\n")

    def test_names(self):
        for name in ["a", "z", "abcdefgh", "zzzzzzzz", "rice", "serves", "take", "step", "hob", "after"]:
            with self.subTest(name):
                self.is_recipe(f"serves 1\nstep {name} 1 hob\n")
        for name in ["abcdefghi", "A", "a1", "1", "", "a.", "aB", "-"]:
            with self.subTest(name):
                self.is_none(f"serves 1\nstep {name} 1 hob\n")

    def test_no_two_the_same(self):
        self.is_none("serves 1\nstep a 1 hob\nstep a 1 hob\n")
        self.is_none("serves 1\nstep a 1 hob\nstep b 2 hob\nstep a 1 oven\n")

    def test_places(self):
        for place in ["hob", "oven", "hand"]:
            with self.subTest(place):
                self.is_recipe(f"serves 1\nstep a 1 {place}\n")
        for place in ["hobs", "ovens", "hands", "ho", "Hob", "pan", "", "after", "1"]:
            with self.subTest(place):
                self.is_none(f"serves 1\nstep a 1 {place}\n")

    def test_eight_lines(self):
        self.is_recipe("serves 1\n" + stepping(8))
        self.is_none("serves 1\n" + stepping(9))

    def test_how_many_words(self):
        for line in ["step\n", "step b\n", "step b 1\n", "step b hob\n", "step 1 hob\n", "step b hob 1\n", "step 1 b hob\n",
                     "step b 1 hob a\n", "step b 1 hob hob\n"]:
            with self.subTest(line):
                self.is_none(LEAST + line)

    def test_after(self):
        two = "serves 1\nstep a 1 hob\nstep b 1 oven\n"
        for line in ["step c 1 hand after a\n", "step c 1 hand after b\n", "step c 1 hand after a b\n",
                     "step c 1 hand after b a\n"]:
            with self.subTest(line):
                self.is_recipe(two + line)
        for line in ["step c 1 hand after\n", "step c 1 hand after c\n", "step c 1 hand after d\n",
                     "step c 1 hand after a a\n", "step c 1 hand after a b a\n", "step c 1 hand after a d\n",
                     "step c 1 hand after a after b\n", "step c 1 hand behind a\n", "step c 1 hand After a\n",
                     "step c 1 after a\n", "step c 1 hand after 1\n", "step c 1 hand after A\n"]:
            with self.subTest(line):
                self.is_none(two + line)

    def test_after_is_told_before(self):
        self.is_none("serves 1\nstep b 1 hob after a\nstep a 1 hob\n")
        self.is_recipe("serves 1\nstep a 1 hob\nstep b 1 hob after a\n")

    def test_step_called_after(self):
        self.is_recipe("serves 1\nstep after 1 hob\nstep hob 2 hand after after\nstep c 1 oven after hob after\n")

    def test_after_all_others(self):
        self.is_recipe("serves 1\n" + stepping(7) + "step last 100 oven after sg sf se sd sc sb sa\n")


class Length(RecipeCase):
    def test_400(self):
        text = DINNER + "\n" * (400 - len(DINNER))
        self.assertEqual(firsts(*GOODS, read(text, 400), read(text, 401), read(text, LARGEST))[-3:], [0, -22, -22])
        self.assertEqual(text_in(last(*GOODS, read(text, 400), write(0))), DINNER)

    def test_written_of_400(self):
        names = ["abcdefg" + letter for letter in "hijklmno"]
        goods = [start()] + [good(name) for name in names]
        text = "serves 99\n" + "".join(f"take 9999 {name}\n" for name in names)
        text += "".join(f"step {name} 100 hand\n" for name in names[:7])
        text += "step zz 100 hand after " + " ".join(names[:6]) + "\n"
        self.assertEqual(len(text), 400)
        seen = ask(*goods, read(text, 400), write(0))
        self.assertEqual((seen[-2], seen[-1][0], text_in(seen[-1])), ([0], 400, text))
        self.assertEqual(last(*goods, read(text, 399)), [-71])

    def test_only_the_first_n_are_looked_at(self):
        text = LEAST + "nothing that a recipe says"
        self.assertEqual(last(*GOODS, read(text, len(LEAST))), [0])
        self.assertEqual(last(*GOODS, read(text, len(LEAST) + 1)), [-71])
        self.assertEqual(last(*GOODS, read(text, len(LEAST) - 1)), [-71])
        self.assertEqual(last(*GOODS, read(text, 0)), [-71])
        longer = LEAST + "step b 2 oven\n"
        self.assertEqual(text_in(last(*GOODS, read(longer, len(LEAST)), write(0))), LEAST)

    def test_zeros_behind_are_no_line(self):
        self.assertEqual(last(*GOODS, read(LEAST, 400)), [-71])
        self.assertEqual(last(*GOODS, read(LEAST, len(LEAST) + 1)), [-71])


class Places(unittest.TestCase):
    EIGHT = GOODS + [read(f"serves {k + 1}\nstep a 1 hob\n") for k in range(8)]

    def test_first_that_is_free(self):
        self.assertEqual(firsts(*self.EIGHT)[-8:], list(range(8)))
        self.assertEqual(firsts(*self.EIGHT, drop(5), drop(2), read(LEAST), read(LEAST), read(LEAST))[-5:],
                         [0, 0, 2, 5, -28])

    def test_others_stay_at_their_places(self):
        seen = ask(*self.EIGHT, drop(3), *[write(k) for k in range(8)])[-8:]
        self.assertEqual([text_in(part)[:8] if part != [-2] else None for part in seen],
                         ["serves 1", "serves 2", "serves 3", None, "serves 5", "serves 6", "serves 7", "serves 8"])

    def test_eight(self):
        self.assertEqual(last(*self.EIGHT, read(LEAST)), [-28])
        self.assertEqual(text_in(last(*self.EIGHT, read(LEAST), write(7))), "serves 8\nstep a 1 hob\n")

    def test_first_told_first(self):
        self.assertEqual(last(*self.EIGHT, read("serves 1\n")), [-71])
        self.assertEqual(last(*self.EIGHT, read(LEAST, 401)), [-22])
        self.assertEqual(last(*self.EIGHT, read("", 401)), [-22])
        self.assertEqual(last(*GOODS, read("", 401)), [-22])

    def test_no_such_recipe(self):
        for place in [1, 7, 8, LARGEST]:
            with self.subTest(place):
                seen = ask(*GOODS, read(LEAST), write(place), drop(place), takes(place, 0, 1), write(0))
                self.assertEqual(seen[-4:-1], [[-2], [-2], [-2]])
                self.assertEqual(text_in(seen[-1]), LEAST)

    def test_no_place_behind_the_last(self):
        self.assertEqual(firsts(*self.EIGHT, write(8), drop(8), takes(8, 0, 1))[-3:], [-2, -2, -2])

    def test_dropped_is_gone(self):
        self.assertEqual(firsts(*GOODS, read(LEAST), drop(0), write(0), takes(0, 0, 1), drop(0), read(LEAST))[-6:],
                         [0, 0, -2, -2, -2, 0])

    def test_a_meal_has_it(self):
        state = State(1, 1, 1)
        state.recipes[0] = Recipe(1, {}, [Step("a", 1, "hob", [])])
        state.recipes[3] = state.recipes[0]
        state.meals[11] = Meal(4, 3, 2, 100, 0)
        self.assertEqual(kt_drop(state, 3), (None, [-16]))
        self.assertEqual(kt_drop(state, 0)[1], [0])
        state.meals[11] = Meal(4, 3, 2, 100, 1)
        self.assertEqual(kt_drop(state, 3), (None, [-16]))
        state.meals[11] = Meal(4, 1, 2, 100, 0)
        self.assertEqual(kt_drop(state, 1), (None, [-2]))


class Takes(unittest.TestCase):
    CALLS = GOODS + [read(DINNER), read("serves 99\ntake 1 salt\ntake 9999 rice\nstep a 1 hob\n"),
                     read("serves 1\ntake 9999 rice\nstep a 1 hob\n"), read("serves 7\ntake 3 oil\nstep a 1 hob\n")]

    def test_ordinary(self):
        self.assertEqual(firsts(*self.CALLS, takes(0, 0, 4), takes(0, 1, 4), takes(0, 0, 2), takes(0, 0, 8))[-4:],
                         [300, 20, 150, 600])

    def test_rounded_up(self):
        seen = firsts(*self.CALLS, *[takes(3, 1, people) for people in range(1, 15)])[-14:]
        self.assertEqual(seen, [1, 1, 2, 2, 3, 3, 3, 4, 4, 5, 5, 6, 6, 6])

    def test_no_such_line(self):
        self.assertEqual(firsts(*self.CALLS, takes(0, 2, 4), takes(1, 1, 99), takes(2, 9, 1))[-3:], [0, 0, 0])

    def test_least_and_most(self):
        self.assertEqual(firsts(*self.CALLS, takes(2, 0, 99), takes(2, 0, 1), takes(1, 2, 1), takes(1, 2, 99),
                                takes(1, 0, 1), takes(1, 0, 98))[-6:], [989901, 9999, 1, 1, 101, 9898])

    def test_people(self):
        for people, due in [(0, -22), (1, 75), (99, 7425), (100, -22), (LARGEST, -22)]:
            with self.subTest(people):
                self.assertEqual(last(*self.CALLS, takes(0, 0, people)), [due])

    def test_no_such_good(self):
        self.assertEqual(firsts(*self.CALLS, takes(0, 9, 1), takes(0, 10, 1), takes(0, LARGEST, 1))[-3:], [0, -2, -2])

    def test_first_told_first(self):
        self.assertEqual(firsts(*self.CALLS, takes(0, 10, 0), takes(4, 0, 100), takes(8, LARGEST, LARGEST))[-3:],
                         [-2, -2, -2])


if __name__ == "__main__":
    unittest.main()
