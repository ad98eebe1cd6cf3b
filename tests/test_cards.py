import itertools
import unittest

from rollmend.cards import cards, found_by
from rollmend.errors import NoCards, NoKey, NoSigns, NoSize
from rollmend.letters import mended
from rollmend.sums import first_sum, second_sum
from tests.helper import (
    GOOD_KEY, GREATEST_KEY, KEYS, LONG, SMALLEST_KEY, slow_card, slow_found_by,
    wrong_cards, wrong_keys, wrong_sizes, wrong_texts,
)


class Cards(unittest.TestCase):
    def test_by_hand(self):
        # "ab": together 195, leaning 2 * 97 + 98 = 292, second 10 * 97 + 98; "cd" likewise.
        self.assertEqual(cards((999, 10, 99999), 2, "abcde"), [((195, 292), 1068), ((199, 298), 1090)])

    def test_size_one(self):
        self.assertEqual(cards(GREATEST_KEY, 1, "aba"), [((97, 97), 97), ((98, 98), 98), ((97, 97), 97)])

    def test_as_long_and_longer(self):
        self.assertEqual(cards(GOOD_KEY, 5, "abcde"), [slow_card(GOOD_KEY, "abcde")])
        self.assertEqual(cards(GOOD_KEY, 6, "abcde"), [])
        self.assertEqual(cards(GOOD_KEY, 200, "abcde"), [])
        self.assertEqual(cards(GOOD_KEY, 1, ""), [])
        self.assertEqual(cards(GOOD_KEY, 200, ""), [])

    def test_size_200(self):
        found = cards(GOOD_KEY, 200, LONG)
        self.assertEqual(found, [slow_card(GOOD_KEY, LONG[k:k + 200]) for k in range(0, 2000, 200)])
        self.assertEqual(len(found), 10)
        self.assertEqual(len(cards(GOOD_KEY, 200, LONG[:1999])), 9)

    def test_what_is_left_over(self):
        for left in ("", "x", "xy"):
            self.assertEqual(
                cards(GOOD_KEY, 3, "abcdef" + left), [slow_card(GOOD_KEY, "abc"), slow_card(GOOD_KEY, "def")])

    def test_as_told(self):
        for key in KEYS:
            for size in (1, 2, 3, 7, 64, 199, 200):
                with self.subTest(key=key, size=size):
                    found = cards(key, size, LONG)
                    blocks = [LONG[k * size:k * size + size] for k in range(2000 // size)]
                    self.assertEqual(found, [(first_sum(key, block), second_sum(key, block)) for block in blocks])
                    self.assertTrue(all(isinstance(card, tuple) and isinstance(card[0], tuple) for card in found))

    def test_new_list(self):
        found = cards(GOOD_KEY, 2, "abcd")
        before = list(found)
        found.clear()
        self.assertEqual(cards(GOOD_KEY, 2, "abcd"), before)


class FoundBy(unittest.TestCase):
    def find(self, size, elder, newer, key=GREATEST_KEY):
        return found_by(key, size, cards(key, size, elder), newer)

    def test_no_signs(self):
        self.assertEqual(self.find(2, "abcd", ""), [])
        self.assertEqual(self.find(2, "", ""), [])

    def test_the_same_text(self):
        self.assertEqual(self.find(2, "abcd", "abcd"), [("copy", 0, 4)])
        self.assertEqual(self.find(1, "abcd", "abcd"), [("copy", 0, 4)])
        self.assertEqual(self.find(4, "abcd", "abcd"), [("copy", 0, 4)])
        self.assertEqual(self.find(200, LONG, LONG), [("copy", 0, 2000)])

    def test_what_is_left_over_is_told(self):
        self.assertEqual(self.find(3, "abcdefgh", "abcdefgh"), [("copy", 0, 6), ("signs", "gh")])
        self.assertEqual(self.find(5, "abcd", "abcd"), [("signs", "abcd")])

    def test_found_at_any_place(self):
        self.assertEqual(
            self.find(3, "abcdef", "xdefyyabcz"),
            [("signs", "x"), ("copy", 3, 3), ("signs", "yy"), ("copy", 0, 3), ("signs", "z")])

    def test_none_fits(self):
        self.assertEqual(self.find(2, "abcd", "bcbc"), [("signs", "bcbc")])
        self.assertEqual(self.find(1, "abcd", "xyz"), [("signs", "xyz")])

    def test_fewer_signs_left(self):
        self.assertEqual(self.find(3, "abcabd", "abcab"), [("copy", 0, 3), ("signs", "ab")])
        self.assertEqual(self.find(3, "abc", "ab"), [("signs", "ab")])

    def test_no_cards(self):
        self.assertEqual(found_by(GOOD_KEY, 1, [], "abc"), [("signs", "abc")])
        self.assertEqual(found_by(GOOD_KEY, 1, [], ""), [])
        self.assertEqual(found_by(SMALLEST_KEY, 1, [], LONG), [("signs", LONG)])

    def test_block_behind_ahead_of_an_earlier_one(self):
        # "ab" stands at 0 and at 4: behind "cd" it is the later one that is copied, else the first one.
        elder = "abxxcdab"
        self.assertEqual(self.find(2, elder, "cdab"), [("copy", 4, 4)])
        self.assertEqual(self.find(2, elder, "ab"), [("copy", 0, 2)])
        self.assertEqual(self.find(2, elder, "xxab"), [("copy", 2, 2), ("copy", 0, 2)])

    def test_a_sign_between(self):
        self.assertEqual(
            self.find(2, "abxxcdab", "cd-ab"), [("copy", 4, 2), ("signs", "-"), ("copy", 0, 2)])

    def test_block_behind_does_not_fit(self):
        self.assertEqual(self.find(2, "abcdab", "abab"), [("copy", 0, 2), ("copy", 0, 2)])
        self.assertEqual(self.find(2, "abcd", "cdcdab"), [("copy", 2, 2), ("copy", 2, 2), ("copy", 0, 2)])

    def test_first_one_that_fits(self):
        self.assertEqual(self.find(1, "aaaa", "aaaa"), [("copy", 0, 4)])
        self.assertEqual(self.find(1, "aaaa", "aaaaaa"), [("copy", 0, 4), ("copy", 0, 2)])
        self.assertEqual(self.find(1, "baaa", "a"), [("copy", 1, 1)])

    def test_both_sums_count(self):
        # The cards share one sum of "ab" each, or but half of the first one.
        first = first_sum(GREATEST_KEY, "ab")
        second = second_sum(GREATEST_KEY, "ab")
        for wrong in [
            (first, second + 1), ((first[0] + 1, first[1]), second), ((first[0], first[1] + 1), second),
            ((first[1], first[0]), second),
        ]:
            self.assertEqual(found_by(GREATEST_KEY, 2, [wrong], "ab"), [("signs", "ab")])
            self.assertEqual(found_by(GREATEST_KEY, 2, [wrong, (first, second)], "ab"), [("copy", 2, 2)])

    def test_second_sum_of_the_same_card(self):
        # The first sum of one card and the second sum of another one are no card that fits.
        first = first_sum(GREATEST_KEY, "ab")
        second = second_sum(GREATEST_KEY, "ab")
        told = [(first, second + 1), ((first[0] + 1, first[1]), second)]
        self.assertEqual(found_by(GREATEST_KEY, 2, told, "ab"), [("signs", "ab")])

    def test_sums_fall_together(self):
        # With few and many 1 each block has all sums 0, so each stretch is taken for a block.
        self.assertEqual(self.find(2, "abcd", "wxyz", SMALLEST_KEY), [("copy", 0, 4)])
        self.assertEqual(self.find(2, "abcd", "uvwxyz-", SMALLEST_KEY), [("copy", 0, 4), ("copy", 0, 2), ("signs", "-")])
        # With few 1 the second sum alone tells stretches apart: here by their order only.
        self.assertEqual(self.find(2, "ab", "baab", (1, 10, 99999)), [("signs", "ba"), ("copy", 0, 2)])
        # With times 1 and few 1 nothing but the plain sum is left.
        self.assertEqual(self.find(2, "ab", "ba", (1, 1, 99999)), [("copy", 0, 2)])
        # With many 1 the first sum alone tells them apart, by the leaning one.
        self.assertEqual(self.find(2, "ab", "ba", (999, 1, 1)), [("signs", "ba")])
        self.assertEqual(self.find(3, "abc", "bbb", (999, 1, 1)), [("signs", "bbb")])
        self.assertEqual(self.find(3, "bab", "abb", (1, 999, 1)), [("copy", 0, 3)])

    def test_leaning_sums_fall_together(self):
        # "bdb" and "cbc" share the plain sum 296 and the leaning sum 592, but not the second sum.
        self.assertEqual(first_sum(GREATEST_KEY, "bdb"), first_sum(GREATEST_KEY, "cbc"))
        self.assertEqual(self.find(3, "bdb", "cbc", (999, 1, 1)), [("copy", 0, 3)])
        self.assertEqual(self.find(3, "bdb", "cbc", (999, 10, 99999)), [("signs", "cbc")])

    def test_another_order(self):
        told = cards(GREATEST_KEY, 2, "abcdef")
        told.reverse()
        self.assertEqual(
            found_by(GREATEST_KEY, 2, told, "abcdef"), [("copy", 4, 2), ("copy", 2, 2), ("copy", 0, 2)])
        self.assertEqual(found_by(GREATEST_KEY, 2, told, "efcdab"), [("copy", 0, 6)])

    def test_cards_of_no_text(self):
        # Numbers that no sum of this key comes to are taken, and fit nothing.
        told = [((10 ** 40, 0), 5), slow_card(GOOD_KEY, "ab"), ((0, 0), 10 ** 40)]
        self.assertEqual(found_by(GOOD_KEY, 2, told, "abab"), [("copy", 2, 2), ("copy", 2, 2)])
        self.assertEqual(found_by(GOOD_KEY, 2, [((0, 0), 0)] * 3000, "ab"), [("signs", "ab")])

    def test_all_small_texts(self):
        texts = ["".join(signs) for many in range(5) for signs in itertools.product("ab", repeat=many)]
        for key in ((999, 10, 99999), (1, 1, 1), (1, 1, 99999), (3, 1, 1), (2, 3, 5)):
            for size in (1, 2, 3):
                for elder in texts:
                    told = cards(key, size, elder)
                    for newer in texts:
                        self.assertEqual(found_by(key, size, told, newer), slow_found_by(key, size, told, newer))

    def test_longer_texts(self):
        elder = LONG[:300]
        newer = LONG[40:90] + "!" + LONG[:60] + LONG[200:300] + LONG[3:50] + LONG[250:299]
        for key in KEYS:
            for size in (1, 2, 5, 16, 50, 200):
                with self.subTest(key=key, size=size):
                    told = cards(key, size, elder)
                    found = found_by(key, size, told, newer)
                    self.assertEqual(found, slow_found_by(key, size, told, newer))
                    self.assertEqual(len(mended(elder, found)), len(newer))
        found = self.find(16, elder, newer)
        self.assertEqual(mended(elder, found), newer)

    def test_2000_signs(self):
        self.assertEqual(
            self.find(200, LONG, "-" + LONG[:1999]), [("signs", "-"), ("copy", 0, 1800), ("signs", LONG[1800:1999])])
        self.assertEqual(self.find(1, "a", "b" * 2000), [("signs", "b" * 2000)])
        self.assertEqual(self.find(1, "a", "a" * 2000), [("copy", 0, 1)] * 2000)


class Refusals(unittest.TestCase):
    def test_keys(self):
        for key in wrong_keys():
            with self.subTest(key=repr(key)):
                with self.assertRaises(NoKey):
                    cards(key, 2, "abc")
                with self.assertRaises(NoKey):
                    found_by(key, 2, [], "abc")

    def test_sizes(self):
        for size in wrong_sizes():
            with self.subTest(size=repr(size)):
                with self.assertRaises(NoSize):
                    cards(GOOD_KEY, size, "abc")
                with self.assertRaises(NoSize):
                    found_by(GOOD_KEY, size, [], "abc")

    def test_cards(self):
        for told in wrong_cards():
            with self.subTest(told=repr(told)):
                with self.assertRaises(NoCards):
                    found_by(GOOD_KEY, 2, told, "abc")

    def test_texts(self):
        for text in wrong_texts():
            with self.subTest(text=repr(text)[:40]):
                with self.assertRaises(NoSigns):
                    cards(GOOD_KEY, 2, text)
                with self.assertRaises(NoSigns):
                    found_by(GOOD_KEY, 2, [((1, 2), 3)], text)

    def test_which_one_is_named_first(self):
        for wrong in (None, True, "\n", [0], 0, -1, (0, 1, 1)):
            with self.subTest(wrong=wrong):
                with self.assertRaises(NoKey):
                    cards(wrong, wrong, wrong)
                with self.assertRaises(NoKey):
                    cards(wrong, 2, wrong)
                with self.assertRaises(NoKey):
                    cards(wrong, wrong, "abc")
                with self.assertRaises(NoSize):
                    cards(GOOD_KEY, wrong, wrong)
                with self.assertRaises(NoKey):
                    found_by(wrong, wrong, wrong, wrong)
                with self.assertRaises(NoKey):
                    found_by(wrong, 2, [], wrong)
                with self.assertRaises(NoKey):
                    found_by(wrong, 2, wrong, "abc")
                with self.assertRaises(NoSize):
                    found_by(GOOD_KEY, wrong, wrong, wrong)
                with self.assertRaises(NoSize):
                    found_by(GOOD_KEY, wrong, [], wrong)
                with self.assertRaises(NoSize):
                    found_by(GOOD_KEY, wrong, wrong, "abc")
                with self.assertRaises(NoCards):
                    found_by(GOOD_KEY, 2, wrong, wrong)


class NothingChanged(unittest.TestCase):
    def test_cards_stay(self):
        told = cards(GOOD_KEY, 2, "abcdab")
        before = list(told)
        found_by(GOOD_KEY, 2, told, "abxcd")
        self.assertEqual(told, before)

    def test_told_letter_is_new(self):
        told = cards(GOOD_KEY, 2, "abcd")
        found = found_by(GOOD_KEY, 2, told, "abx")
        before = list(found)
        found.append(("signs", "z"))
        found[0] = ("signs", "y")
        self.assertEqual(found_by(GOOD_KEY, 2, told, "abx"), before)

    def test_nothing_is_kept(self):
        told = cards(GOOD_KEY, 2, "abcd")
        self.assertEqual(found_by(GOOD_KEY, 2, told, "cd"), [("copy", 2, 2)])
        told.clear()
        self.assertEqual(found_by(GOOD_KEY, 2, told, "cd"), [("signs", "cd")])


if __name__ == "__main__":
    unittest.main()
