import unittest

from rollmend.errors import NoKey, NoSigns
from rollmend.sums import first_sum, rolled, second_sum, whole_sum
from tests.helper import (
    ALL_SIGNS, GOOD_KEY, GREATEST_KEY, KEYS, LONG, slow_first_sum, slow_second_sum, wrong_keys, wrong_texts,
)

TEXTS = ["", " ", "~", "a", "ab", "ba", "aab", "Hello, there", "  ", "~~~", ALL_SIGNS, LONG, " " * 2000, "~" * 2000]


class FirstSum(unittest.TestCase):
    def test_by_hand(self):
        # The worths of "abc" are 97, 98, 99: together 294, leaning 3 * 97 + 2 * 98 + 99 = 586.
        self.assertEqual(first_sum((999, 1, 1), "abc"), (294, 586))
        self.assertEqual(first_sum((100, 1, 1), "abc"), (94, 86))
        self.assertEqual(first_sum((7, 1, 1), "abc"), (0, 5))
        self.assertEqual(first_sum((999, 1, 1), "cba"), (294, 590))

    def test_no_signs_and_one(self):
        self.assertEqual(first_sum(GREATEST_KEY, ""), (0, 0))
        self.assertEqual(first_sum(GREATEST_KEY, " "), (32, 32))
        self.assertEqual(first_sum(GREATEST_KEY, "~"), (126, 126))
        self.assertEqual(first_sum((32, 1, 1), " "), (0, 0))

    def test_few_is_one(self):
        for text in TEXTS:
            self.assertEqual(first_sum((1, 999, 99999), text), (0, 0))

    def test_only_few_counts(self):
        for text in TEXTS:
            self.assertEqual(first_sum((313, 1, 1), text), first_sum((313, 999, 99999), text))

    def test_as_told(self):
        for key in KEYS:
            for text in TEXTS:
                with self.subTest(key=key, text=text[:20]):
                    found = first_sum(key, text)
                    self.assertIsInstance(found, tuple)
                    self.assertEqual(found, slow_first_sum(key, text))


class Rolled(unittest.TestCase):
    def test_by_hand(self):
        # "bcd" after "abc": together 297, leaning 3 * 98 + 2 * 99 + 100 = 592.
        self.assertEqual(rolled((999, 1, 1), (294, 586), 3, "a", "d"), (297, 592))
        self.assertEqual(rolled((999, 1, 1), (97, 97), 1, "a", "~"), (126, 126))

    def test_along_a_text(self):
        for key in KEYS:
            for text in ["a", "ab", "aaaa", "~ ~ ~  ~~", "Hello, there", ALL_SIGNS, LONG]:
                for many in (1, 2, 3, 7, 200, 1999):
                    with self.subTest(key=key, text=text[:20], many=many):
                        self.check_along(key, text, many)

    def check_along(self, key, text, many):
        if many > len(text):
            return
        found = first_sum(key, text[:many])
        for place in range(len(text) - many):
            found = rolled(key, found, many, text[place], text[place + many])
            self.assertIsInstance(found, tuple)
            if many < 10 or place % 50 == 0 or place == len(text) - many - 1:
                self.assertEqual(found, first_sum(key, text[place + 1:place + 1 + many]))

    def test_a_whole_text(self):
        found = first_sum(GOOD_KEY, LONG)
        self.assertEqual(rolled(GOOD_KEY, found, 2000, LONG[0], "q"), first_sum(GOOD_KEY, LONG[1:] + "q"))

    def test_refuses_keys(self):
        for key in wrong_keys():
            with self.subTest(key=repr(key)):
                with self.assertRaises(NoKey):
                    rolled(key, (0, 0), 1, "a", "b")


class SecondSum(unittest.TestCase):
    def test_by_hand(self):
        # 97; 10 * 97 + 98 = 1068; 10 * 1068 + 99 = 10779.
        self.assertEqual(second_sum((1, 10, 99999), "abc"), 10779)
        # 97; 1068 leaves 68; 680 + 99 = 779 leaves 79, hundred by hundred.
        self.assertEqual(second_sum((1, 10, 100), "abc"), 79)
        self.assertEqual(second_sum((1, 1, 99999), "abc"), 294)

    def test_no_signs_and_one(self):
        self.assertEqual(second_sum(GREATEST_KEY, ""), 0)
        self.assertEqual(second_sum(GREATEST_KEY, " "), 32)
        self.assertEqual(second_sum((1, 1, 97), "a"), 0)

    def test_many_is_one(self):
        for text in TEXTS:
            self.assertEqual(second_sum((999, 999, 1), text), 0)

    def test_few_does_not_count(self):
        for text in TEXTS:
            self.assertEqual(second_sum((1, 31, 9973), text), second_sum((999, 31, 9973), text))

    def test_as_told(self):
        for key in KEYS:
            for text in TEXTS:
                with self.subTest(key=key, text=text[:20]):
                    self.assertEqual(second_sum(key, text), slow_second_sum(key[1], key[2], text))


class WholeSum(unittest.TestCase):
    def test_by_hand(self):
        # Times is 10 + 1: 97; 1067 + 98 = 1165; 12815 + 99 = 12914.
        self.assertEqual(whole_sum((1, 10, 99999), "abc"), (3, 12914))
        self.assertEqual(whole_sum((1, 1, 1), "abc"), (3, 0))
        self.assertEqual(whole_sum(GREATEST_KEY, ""), (0, 0))

    def test_times_one_greater(self):
        for text in TEXTS:
            found = whole_sum((7, 30, 9973), text)
            self.assertIsInstance(found, tuple)
            self.assertEqual(found, (len(text), second_sum((7, 31, 9973), text)))

    def test_greatest_times(self):
        # 1000 * 97 + 98 = 97098.
        self.assertEqual(whole_sum(GREATEST_KEY, "ab"), (2, 97098))
        for text in TEXTS:
            self.assertEqual(whole_sum((1, 999, 99999), text), (len(text), slow_second_sum(1000, 99999, text)))

    def test_as_told(self):
        for key in KEYS:
            for text in TEXTS:
                with self.subTest(key=key, text=text[:20]):
                    self.assertEqual(whole_sum(key, text), (len(text), slow_second_sum(key[1] + 1, key[2], text)))


class Refusals(unittest.TestCase):
    def test_keys(self):
        for reckon in (first_sum, second_sum, whole_sum):
            for key in wrong_keys():
                with self.subTest(reckon=reckon.__name__, key=repr(key)):
                    with self.assertRaises(NoKey):
                        reckon(key, "abc")

    def test_texts(self):
        for reckon in (first_sum, second_sum, whole_sum):
            for text in wrong_texts():
                with self.subTest(reckon=reckon.__name__, text=repr(text)[:40]):
                    with self.assertRaises(NoSigns):
                        reckon(GOOD_KEY, text)

    def test_key_ahead_of_text(self):
        for reckon in (first_sum, second_sum, whole_sum):
            for key in (None, (0, 1, 1), (1, 1, 100000), (True, 1, 1), [1, 1, 1]):
                for text in (None, "\n", "a" * 2001):
                    with self.assertRaises(NoKey):
                        reckon(key, text)

    def test_bounds_are_taken(self):
        for reckon in (first_sum, second_sum, whole_sum):
            for key in KEYS:
                for text in ("", ALL_SIGNS, "a" * 2000):
                    reckon(key, text)


if __name__ == "__main__":
    unittest.main()
