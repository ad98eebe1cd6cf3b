import unittest

from rollmend.cards import cards, found_by
from rollmend.errors import NoKey, NoSigns, NoSize
from rollmend.letters import mended
from rollmend.sums import whole_sum
from rollmend.talks import all_signs, talk
from tests.helper import (
    GOOD_KEY, GREATEST_KEY, KEYS, LONG, SMALLEST_KEY, slow_talk, small_texts, wrong_keys, wrong_sizes, wrong_texts,
)


class Mended(unittest.TestCase):
    def test_by_hand(self):
        self.assertEqual(
            talk(GREATEST_KEY, 3, "abcdef", "xdefyyabcz"),
            ("mended", "xdefyyabcz",
             [("signs", "x"), ("copy", 3, 3), ("signs", "yy"), ("copy", 0, 3), ("signs", "z")]))

    def test_the_same_text(self):
        for key in KEYS:
            self.assertEqual(talk(key, 2, "abcd", "abcd"), ("mended", "abcd", [("copy", 0, 4)]))
        self.assertEqual(talk(GOOD_KEY, 200, LONG, LONG), ("mended", LONG, [("copy", 0, 2000)]))

    def test_no_signs(self):
        for key in KEYS:
            for size in (1, 2, 200):
                self.assertEqual(talk(key, size, "", ""), ("mended", "", []))
                self.assertEqual(talk(key, size, "abcd", ""), ("mended", "", []))
                self.assertEqual(talk(key, size, "", "abcd"), ("mended", "abcd", [("signs", "abcd")]))

    def test_size_beyond_the_texts(self):
        for key in KEYS:
            self.assertEqual(talk(key, 5, "abcd", "abcd"), ("mended", "abcd", [("signs", "abcd")]))
            self.assertEqual(talk(key, 200, "abcd", "abcde"), ("mended", "abcde", [("signs", "abcde")]))

    def test_all_signs_in_the_letter_are_no_told_ones(self):
        # The letter happens to be what would be told, but it is a letter that was found and mended.
        self.assertEqual(talk(GREATEST_KEY, 2, "abcd", "wxyz"), ("mended", "wxyz", [("signs", "wxyz")]))

    def test_whole_sums_fall_together(self):
        # All sums are 0, and both texts have four signs: the elder hand can't see that it made another text.
        self.assertEqual(talk(SMALLEST_KEY, 2, "abcd", "wxyz"), ("mended", "abcd", [("copy", 0, 4)]))
        self.assertEqual(
            talk(SMALLEST_KEY, 2, "abcd", "uvwxyz-"), ("mended", "abcdab-", [("copy", 0, 4), ("copy", 0, 2), ("signs", "-")]))
        self.assertEqual(talk((1, 999, 1), 1, "q", "abc"), ("mended", "qqq", [("copy", 0, 1)] * 3))


class Told(unittest.TestCase):
    def test_block_sums_fall_together(self):
        # Times 1 tells no order, but times 2, of the whole sum, does: 2 * 97 + 98 against 2 * 98 + 97.
        self.assertEqual(talk((1, 1, 99999), 2, "ab", "ba"), ("told", "ba", [("signs", "ba")]))
        # "bdb" and "cbc" share both first sums; many 2 and times 1 leave 0 for either second sum.
        # The whole sum with times 2 is the last worth's rest alone: 0 for "b", 1 for "c".
        self.assertEqual(talk((999, 1, 2), 3, "bdb", "cbc"), ("told", "cbc", [("signs", "cbc")]))

    def test_one_piece_of_signs(self):
        self.assertEqual(talk((1, 1, 99999), 2, "ab--", "ba--ab"), ("told", "ba--ab", [("signs", "ba--ab")]))
        newer = "ba" * 1000
        self.assertEqual(talk((1, 1, 99999), 2, "ab", newer), ("told", newer, [("signs", newer)]))

    def test_no_signs_are_no_piece(self):
        self.assertEqual(all_signs(""), [])
        self.assertEqual(all_signs("a"), [("signs", "a")])


class AsTold(unittest.TestCase):
    def check_promise(self, key, size, elder, newer):
        found = talk(key, size, elder, newer)
        self.assertIsInstance(found, tuple)
        how, text, letter = found
        self.assertEqual(mended(elder, letter), text)
        self.assertEqual(whole_sum(key, text), whole_sum(key, newer))
        if how == "mended":
            self.assertEqual(letter, found_by(key, size, cards(key, size, elder), newer))
        else:
            self.assertEqual(found, ("told", newer, [("signs", newer)]))
            met = mended(elder, found_by(key, size, cards(key, size, elder), newer))
            self.assertNotEqual(whole_sum(key, met), whole_sum(key, newer))
        return how if text == newer else "another text"

    def test_all_small_texts(self):
        ends = set()
        texts = small_texts("abc", 3)
        for key in (GREATEST_KEY, SMALLEST_KEY, (1, 1, 99999), (3, 1, 1), (2, 3, 5), (1, 2, 2)):
            for size in (1, 2, 3):
                for elder in texts:
                    for newer in texts:
                        self.assertEqual(talk(key, size, elder, newer), slow_talk(key, size, elder, newer))
                        ends.add(self.check_promise(key, size, elder, newer))
        self.assertEqual(ends, {"mended", "told", "another text"})

    def test_longer_texts(self):
        elder = LONG[:300]
        newer = LONG[40:90] + "!" + LONG[:60] + LONG[200:300] + LONG[3:50]
        for key in KEYS:
            for size in (1, 2, 5, 16, 200):
                with self.subTest(key=key, size=size):
                    self.assertEqual(talk(key, size, elder, newer), slow_talk(key, size, elder, newer))
                    self.check_promise(key, size, elder, newer)

    def test_2000_signs(self):
        newer = "-" + LONG[:1999]
        for key in KEYS:
            for size in (1, 7, 200):
                with self.subTest(key=key, size=size):
                    self.check_promise(key, size, LONG, newer)


class Refusals(unittest.TestCase):
    def test_keys(self):
        for key in wrong_keys():
            with self.subTest(key=repr(key)):
                with self.assertRaises(NoKey):
                    talk(key, 2, "abc", "abd")

    def test_sizes(self):
        for size in wrong_sizes():
            with self.subTest(size=repr(size)):
                with self.assertRaises(NoSize):
                    talk(GOOD_KEY, size, "abc", "abd")

    def test_texts(self):
        for text in wrong_texts():
            with self.subTest(text=repr(text)[:40]):
                for good in ("abc", ""):
                    with self.assertRaises(NoSigns):
                        talk(GOOD_KEY, 2, text, good)
                    with self.assertRaises(NoSigns):
                        talk(GOOD_KEY, 2, good, text)
                with self.assertRaises(NoSigns):
                    talk(GOOD_KEY, 2, text, text)

    def test_which_one_is_named_first(self):
        for wrong in (None, True, "\n", [0], 0, -1, (0, 1, 1)):
            with self.subTest(wrong=wrong):
                for rest in [(wrong, wrong, wrong), (2, wrong, "abc"), (2, "abc", wrong), (wrong, "abc", "abc")]:
                    with self.assertRaises(NoKey):
                        talk(wrong, *rest)
                for rest in [(wrong, wrong), ("abc", wrong), (wrong, "abc")]:
                    with self.assertRaises(NoSize):
                        talk(GOOD_KEY, wrong, *rest)


class NothingKept(unittest.TestCase):
    def test_told_letter_is_new(self):
        for key, elder, newer in [(GOOD_KEY, "abcd", "abx"), (GOOD_KEY, "", ""), ((1, 1, 99999), "ab", "ba")]:
            found = talk(key, 2, elder, newer)
            before = (found[0], found[1], list(found[2]))
            found[2].append(("signs", "z"))
            self.assertEqual(talk(key, 2, elder, newer), before)


if __name__ == "__main__":
    unittest.main()
