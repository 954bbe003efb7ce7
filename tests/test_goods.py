"""Point 3: kt_good and kt_price."""

import unittest

from tests.helper import LARGEST, ask, buy, day, firsts, good, last, price, start, totals

NAMES = ["a", "z", "rice", "oil", "salt", "abcdefgh", "ab", "abc", "b", "c", "d", "e", "f", "g", "h", "zzzzzzzz"]


class NewGood(unittest.TestCase):
    def test_numbered_as_they_come(self):
        self.assertEqual(firsts(start(), *[good(name) for name in NAMES]), [0] + list(range(16)))

    def test_names_of_length(self):
        self.assertEqual(last(start(), good("", 0)), [-22])
        self.assertEqual(last(start(), good("abcdefgh", 0)), [-22])
        self.assertEqual(last(start(), good("a", 1)), [0])
        self.assertEqual(last(start(), good("abcdefgh", 8)), [0])
        self.assertEqual(last(start(), good("abcdefgh", 9)), [-22])
        self.assertEqual(last(start(), good("abcdefgh", LARGEST)), [-22])

    def test_only_the_first_n_are_looked_at(self):
        self.assertEqual(firsts(start(), good("ab?  \n77", 2), good("ab", 2), good("abcd", 3)), [0, 0, -17, 1])

    def test_letters_alone(self):
        for byte in range(256):
            with self.subTest(byte):
                due = [0] if ord("a") <= byte <= ord("z") else [-22]
                self.assertEqual(last(start(), good([byte], 1)), due)
                self.assertEqual(last(start(), good([97, byte, 98], 3)), due)
                self.assertEqual(last(start(), good([97] * 7 + [byte], 8)), due)

    def test_zeros_behind_are_no_letters(self):
        self.assertEqual(last(start(), good("rice", 5)), [-22])

    def test_same_name(self):
        self.assertEqual(firsts(start(), good("rice"), good("oil"), good("rice"), good("oil"), good("ric")),
                         [0, 0, 1, -17, -17, 2])

    def test_sixteen(self):
        calls = [good(name) for name in NAMES]
        self.assertEqual(last(start(), *calls, good("more")), [-28])
        self.assertEqual(last(start(), *calls, totals(15)), [0, 0, 0, 0, 0])
        self.assertEqual(last(start(), *calls, good("more"), totals(16)), [-2])

    def test_first_told_first(self):
        calls = [start()] + [good(name) for name in NAMES]
        self.assertEqual(last(*calls, good("rice")), [-17])
        self.assertEqual(last(*calls, good("abcdefgh", 9)), [-22])
        self.assertEqual(last(*calls, good("A")), [-22])

    def test_refused_is_none_more(self):
        self.assertEqual(firsts(start(), good("a"), good("a"), good("A"), good("b")), [0, 0, -17, -22, 1])

    def test_new_good_has_nothing(self):
        self.assertEqual(last(start(), good("a"), price(0, 5), good("b"), totals(1)), [0, 0, 0, 0, 0])


class Price(unittest.TestCase):
    def test_ordinary(self):
        self.assertEqual(ask(start(), good("a"), good("b"), price(1, 250), totals(0), totals(1))[3:],
                         [[0], [0, 0, 0, 0, 0], [0, 0, 0, 0, 250]])

    def test_edges(self):
        for cents, due, there in [(0, 0, 0), (1, 0, 1), (100000, 0, 100000), (100001, -22, 7), (LARGEST, -22, 7)]:
            with self.subTest(cents):
                seen = ask(start(), good("a"), price(0, 7), price(0, cents), totals(0))
                self.assertEqual(seen[3:], [[due], [0, 0, 0, 0, there]])

    def test_no_such_good(self):
        self.assertEqual(last(start(), price(0, 1)), [-2])
        self.assertEqual(last(start(), good("a"), price(1, 1)), [-2])
        self.assertEqual(last(start(), good("a"), price(LARGEST, 1)), [-2])

    def test_first_told_first(self):
        self.assertEqual(last(start(), good("a"), price(1, 100001)), [-2])

    def test_only_the_price(self):
        seen = ask(start(), good("a"), buy(0, 5, 3), price(0, 9), day(), price(0, 8), totals(0))
        self.assertEqual(seen[-1], [0, 5, 0, 0, 8])


if __name__ == "__main__":
    unittest.main()
