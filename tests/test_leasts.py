import itertools
import unittest

from rollmend.cards import cards, found_by
from rollmend.cuts import found_by_cuts
from rollmend.errors import Beyond, NoLetter, NoSigns
from rollmend.leasts import back, least
from rollmend.letters import behind, cost, mended, plain
from tests.helper import GOOD_KEY, KEYS, LONG, slow_least, small_texts, wrong_letters, wrong_texts


def all_copies(elder):
    return [("copy", place, many) for place in range(len(elder)) for many in range(1, len(elder) - place + 1)]


def least_costs(elder, signs, most):
    """What each text of at most so many signs costs at least, by making all texts of all letters."""
    pieces = all_copies(elder) + [("signs", sign) for sign in signs]
    ends = {mended(elder, [piece]) for piece in pieces}
    costs = {"": 0}
    newest = [""]
    while newest:
        longer = []
        for text in newest:
            for end in ends:
                made = text + end
                if len(made) <= most and made not in costs:
                    costs[made] = costs[text] + 1
                    longer.append(made)
        newest = longer
    return costs


class Least(unittest.TestCase):
    def test_no_signs(self):
        self.assertEqual(least("", ""), [])
        self.assertEqual(least("abc", ""), [])
        self.assertEqual(least("", "abc"), [("signs", "abc")])

    def test_the_same_text(self):
        self.assertEqual(least("a", "a"), [("copy", 0, 1)])
        self.assertEqual(least("abab", "abab"), [("copy", 0, 4)])
        self.assertEqual(least(LONG, LONG), [("copy", 0, 2000)])

    def test_nothing_alike(self):
        self.assertEqual(least("abc", "xyz"), [("signs", "xyz")])

    def test_by_hand(self):
        self.assertEqual(
            least("the elder text", "see the elder text!"),
            [("signs", "s"), ("copy", 2, 1), ("copy", 2, 2), ("copy", 0, 14), ("signs", "!")])
        self.assertEqual(least("abcd", "cdab"), [("copy", 2, 2), ("copy", 0, 2)])
        self.assertEqual(least("abcd", "xaybz"), [
            ("signs", "x"), ("copy", 0, 1), ("signs", "y"), ("copy", 1, 1), ("signs", "z")])

    def test_longest_stretch(self):
        # "ab" stands first at 0, "abc" at 2, "abcd" at 5 alone.
        elder = "ababcabcde"
        self.assertEqual(least(elder, "ab"), [("copy", 0, 2)])
        self.assertEqual(least(elder, "abc"), [("copy", 2, 3)])
        self.assertEqual(least(elder, "abcd"), [("copy", 5, 4)])
        self.assertEqual(least(elder, "abcx"), [("copy", 2, 3), ("signs", "x")])
        self.assertEqual(least(elder, "abcabcabcd"), [("copy", 2, 6), ("copy", 5, 4)])

    def test_first_place(self):
        self.assertEqual(least("xabyabzab", "ab"), [("copy", 1, 2)])
        self.assertEqual(least("aaaa", "aa"), [("copy", 0, 2)])
        self.assertEqual(least("baaa", "aaa"), [("copy", 1, 3)])

    def test_stretches_that_overlap_themselves(self):
        self.assertEqual(least("aaa", "aaaaaaa"), [("copy", 0, 3), ("copy", 0, 3), ("copy", 0, 1)])
        self.assertEqual(least("aab", "aaab"), [("copy", 0, 2), ("copy", 1, 2)])
        self.assertEqual(least("ababab", "babababa"), [("copy", 1, 5), ("copy", 0, 3)])

    def test_signs_beside_each_other_are_one_piece(self):
        self.assertEqual(least("a", "xyaz"), [("signs", "xy"), ("copy", 0, 1), ("signs", "z")])

    def test_2000_signs(self):
        self.assertEqual(least("b" * 2000, "a" * 2000), [("signs", "a" * 2000)])
        self.assertEqual(least("a" * 1999 + "b", "a" * 2000), [("copy", 0, 1999), ("copy", 0, 1)])
        self.assertEqual(least("a", "a" * 2000), [("copy", 0, 1)] * 2000)
        self.assertEqual(least("a" * 2000, "ab" * 1000), [("copy", 0, 1), ("signs", "b")] * 1000)
        self.assertEqual(least(LONG[1:] + "!", LONG)[0][0], "copy")
        rising = "".join("a" * many + "b" for many in range(1, 62))
        self.assertEqual(least(rising, "a" * 61 + "b"), [("copy", rising.index("a" * 61), 62)])

    def test_all_small_texts(self):
        texts = small_texts("ab", 5)
        for elder in texts:
            for newer in texts:
                found = least(elder, newer)
                self.assertEqual(found, slow_least(elder, newer))
                self.assertEqual(plain(found), found)
                self.assertEqual(mended(elder, found), newer)

    def test_longer_texts(self):
        elder = LONG[:200] + LONG[50:120] + "aabaab" * 5
        newer = "aabaabaabaab!" + LONG[40:130] + LONG[::-1][:50] + LONG[100:200] + "baabaa" * 4 + LONG[:60]
        self.assertEqual(least(elder, newer), slow_least(elder, newer))
        self.assertEqual(least(newer, elder), slow_least(newer, elder))


class CostsLeast(unittest.TestCase):
    def test_against_all_letters(self):
        for elder in ("", "a", "ab", "aba", "aab", "abc"):
            pieces = all_copies(elder) + [("signs", "a"), ("signs", "b"), ("signs", "ab"), ("signs", "ba")]
            for many in range(5):
                for letter in itertools.product(pieces, repeat=many):
                    made = mended(elder, list(letter))
                    self.assertLessEqual(cost(least(elder, made)), cost(list(letter)))

    def test_against_all_costs(self):
        for elder in small_texts("ab", 5) + ["abc", "abcab", "cabbac"]:
            costs = least_costs(elder, "abc", 5)
            self.assertEqual(sorted(costs), sorted(small_texts("abc", 5)))
            for newer, lowest in costs.items():
                self.assertEqual(cost(least(elder, newer)), lowest)

    def test_against_the_other_ways(self):
        elder = LONG[:300]
        newer = LONG[40:90] + "!" + LONG[:60] + LONG[200:300] + LONG[3:50]
        lowest = cost(least(elder, newer))
        for size in (1, 2, 5, 16, 50):
            found = found_by((999, 31, 99991), size, cards((999, 31, 99991), size, elder), newer)
            self.assertEqual(mended(elder, found), newer)
            self.assertLessEqual(lowest, cost(found))
        for key in KEYS:
            self.assertLessEqual(lowest, cost(found_by_cuts(key, 3, 7, elder, newer)))


class Back(unittest.TestCase):
    def test_no_signs_and_no_pieces(self):
        self.assertEqual(back("", []), [])
        self.assertEqual(back("abc", []), [("signs", "abc")])
        self.assertEqual(back("", [("signs", "abc")]), [])
        self.assertEqual(back("abc", [("signs", "xyz")]), [("signs", "abc")])

    def test_by_hand(self):
        self.assertEqual(back("abcd", [("copy", 2, 2), ("copy", 0, 2)]), [("copy", 2, 2), ("copy", 0, 2)])
        self.assertEqual(back("abcd", [("signs", "xx"), ("copy", 0, 4)]), [("copy", 2, 4)])
        self.assertEqual(back("abcd", [("copy", 1, 2)]), [("signs", "a"), ("copy", 0, 2), ("signs", "d")])

    def test_signs_count_like_copies(self):
        self.assertEqual(back("abcd", [("signs", "cd"), ("signs", "ab")]), [("copy", 2, 2), ("copy", 0, 2)])

    def test_leads_back(self):
        pieces = [("copy", 0, 2), ("copy", 1, 2), ("copy", 2, 1), ("signs", "x"), ("signs", "ab")]
        for elder in ("abc", "aaa", "aba"):
            for many in range(4):
                for letter in itertools.product(pieces, repeat=many):
                    made = mended(elder, list(letter))
                    found = back(elder, list(letter))
                    self.assertEqual(found, least(made, elder))
                    self.assertEqual(mended(made, found), elder)
                    self.assertEqual(mended(elder, behind(list(letter), found)), elder)

    def test_least_of_all(self):
        elder = LONG[:200]
        letter = found_by(GOOD_KEY, 8, cards(GOOD_KEY, 8, elder), LONG[30:150] + "!" + LONG[:100])
        made = mended(elder, letter)
        self.assertEqual(back(elder, letter), slow_least(made, elder))

    def test_more_than_2000_signs_made(self):
        self.assertEqual(back(LONG, [("copy", 0, 2000), ("signs", "a")]), [("copy", 0, 2000)])
        self.assertEqual(back(LONG, [("signs", LONG[::-1]), ("copy", 0, 2000)]), [("copy", 2000, 2000)])
        self.assertEqual(back("ab", [("signs", "x" * 2000)] * 3 + [("copy", 0, 2)]), [("copy", 6000, 2)])
        self.assertEqual(back(LONG, [("copy", 0, 2000)] * 2000), [("copy", 0, 2000)])
        self.assertEqual(back("b" * 2000, [("signs", "a" * 2000)] * 2000), [("signs", "b" * 2000)])
        found = back("b" + LONG[1:], [("signs", "a" * 2000), ("copy", 1, 1999), ("signs", "a" * 2000)])
        self.assertEqual(mended("b" + LONG[1:], behind([("signs", "a" * 2000), ("copy", 1, 1999)], found)),
                         "b" + LONG[1:])


class Refusals(unittest.TestCase):
    def test_texts(self):
        for text in wrong_texts():
            with self.subTest(text=repr(text)[:40]):
                for good in ("abc", ""):
                    with self.assertRaises(NoSigns):
                        least(text, good)
                    with self.assertRaises(NoSigns):
                        least(good, text)
                with self.assertRaises(NoSigns):
                    least(text, text)
                with self.assertRaises(NoSigns):
                    back(text, [])

    def test_letters(self):
        for letter in wrong_letters():
            with self.subTest(letter=repr(letter)[:60]):
                with self.assertRaises(NoLetter):
                    back("abc", letter)

    def test_beyond(self):
        for copy in [("copy", 0, 4), ("copy", 3, 1), ("copy", 4, 1), ("copy", 10 ** 400, 1), ("copy", 0, 10 ** 400)]:
            for letter in ([copy], [("signs", "a"), copy], [copy, ("signs", "a")]):
                with self.subTest(letter=str(letter)[:60]):
                    with self.assertRaises(Beyond):
                        back("abc", letter)
        with self.assertRaises(Beyond):
            back("", [("copy", 0, 1)])

    def test_which_one_is_named_first(self):
        for letter in (None, (), [("copy", 0, 0)], [("copy", 9, 1)], [("copy", 9, 1), ("signs", "")]):
            with self.assertRaises(NoSigns):
                back("\n", letter)
            with self.assertRaises(NoSigns):
                back(None, letter)
        with self.assertRaises(NoLetter):
            back("abc", [("copy", 9, 1), ("copy", 0, 0)])


class NothingChanged(unittest.TestCase):
    def test_letter_stays(self):
        letter = [("copy", 2, 1), ("signs", "a"), ("signs", "b"), ("copy", 0, 1), ("copy", 1, 1)]
        before = list(letter)
        back("abc", letter)
        self.assertEqual(letter, before)

    def test_told_letters_are_new(self):
        letter = [("copy", 0, 3)]
        for tell in (
            lambda: least("abc", "abxc"), lambda: least("", ""), lambda: back("abc", letter), lambda: back("", []),
        ):
            found = tell()
            before = list(found)
            found.append(("signs", "z"))
            found[0] = ("signs", "y")
            self.assertEqual(tell(), before)
        self.assertEqual(letter, [("copy", 0, 3)])


if __name__ == "__main__":
    unittest.main()
