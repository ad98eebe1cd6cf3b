import unittest

from rollmend.cuts import cut_places, found_by_cuts, stretches
from rollmend.errors import NoKey, NoSigns, NoSize
from rollmend.letters import mended, plain
from rollmend.sums import first_sum
from tests.helper import (
    GOOD_KEY, GREATEST_KEY, KEYS, LONG, SMALLEST_KEY, slow_cut_places, slow_found_by_cuts, slow_stretches,
    small_texts, wrong_keys, wrong_sizes, wrong_texts,
)

# With few 999 and a window of 1 both sums are the worth itself, so a part of 97 cuts behind each "a" alone.
BEHIND_A = ((999, 1, 1), 1, 97)


class CutPlaces(unittest.TestCase):
    def test_by_hand(self):
        # A window of 2: 3 * the first worth and 2 * the second one, together with few 999.
        # "ab" 195 + 292 = 487, "bc" 197 + 295 = 492, "cd" 199 + 298 = 497, "de" 201 + 301 = 502.
        key = (999, 1, 1)
        self.assertEqual(cut_places(key, 2, 2, "abcde"), [3, 5])
        self.assertEqual(cut_places(key, 2, 5, "abcde"), [])
        self.assertEqual(cut_places(key, 2, 7, "abcde"), [4])
        self.assertEqual(cut_places(key, 2, 41, "abcde"), [3])
        self.assertEqual(cut_places(key, 2, 1, "abcde"), [2, 3, 4, 5])

    def test_sums_are_what_few_leaves(self):
        # "ab" leaves 5 of 195 and 2 of 292 by 10; the two are put together and not divided by few once more.
        key = (10, 1, 1)
        self.assertEqual(first_sum(key, "ab"), (5, 2))
        self.assertEqual(cut_places(key, 2, 7, "ab"), [2])
        # "bc" leaves 7 and 5: 12, which a part of 2 doesn't see cut by few, but one of 6 does.
        self.assertEqual(first_sum(key, "bc"), (7, 5))
        self.assertEqual(cut_places(key, 2, 6, "bc"), [2])
        self.assertEqual(cut_places(key, 2, 12, "bc"), [2])

    def test_behind_each_a(self):
        self.assertEqual(cut_places(*BEHIND_A, "bab-aa~"), [2, 5, 6])
        self.assertEqual(cut_places(*BEHIND_A, "a"), [1])
        self.assertEqual(cut_places(*BEHIND_A, "aba"), [1, 3])
        self.assertEqual(cut_places(*BEHIND_A, "xyz"), [])

    def test_no_signs(self):
        for key in KEYS:
            for window in (1, 2, 200):
                for part in (1, 2, 200):
                    self.assertEqual(cut_places(key, window, part, ""), [])

    def test_window_as_long_and_longer(self):
        self.assertEqual(cut_places(GOOD_KEY, 5, 1, "abcde"), [5])
        self.assertEqual(cut_places(GOOD_KEY, 6, 1, "abcde"), [])
        self.assertEqual(cut_places(GOOD_KEY, 200, 1, "abcde"), [])
        self.assertEqual(cut_places(GOOD_KEY, 200, 1, LONG), list(range(200, 2001)))

    def test_part_one_and_few_one(self):
        self.assertEqual(cut_places(GOOD_KEY, 1, 1, "abc"), [1, 2, 3])
        self.assertEqual(cut_places(GOOD_KEY, 3, 1, "abcde"), [3, 4, 5])
        self.assertEqual(cut_places(SMALLEST_KEY, 2, 200, "abcde"), [2, 3, 4, 5])

    def test_only_few_counts(self):
        for part in (1, 2, 7, 200):
            self.assertEqual(cut_places((313, 1, 1), 4, part, LONG), cut_places((313, 999, 99999), 4, part, LONG))

    def test_as_told(self):
        for key in KEYS:
            for window in (1, 2, 5, 48, 199, 200):
                for part in (1, 2, 7, 64, 200):
                    with self.subTest(key=key, window=window, part=part):
                        text = LONG[:260]
                        found = cut_places(key, window, part, text)
                        self.assertIsInstance(found, list)
                        self.assertEqual(found, slow_cut_places(key, window, part, text))
                        self.assertEqual(found, sorted(set(found)))

    def test_2000_signs(self):
        for window, part in [(1, 3), (16, 40), (200, 200)]:
            self.assertEqual(cut_places(GOOD_KEY, window, part, LONG), slow_cut_places(GOOD_KEY, window, part, LONG))


class WindowAlone(unittest.TestCase):
    def test_the_window_tells(self):
        for key in KEYS:
            for window in (1, 2, 5, 16):
                for part in (2, 7, 30):
                    found = cut_places(key, window, part, LONG[:150])
                    for end in range(1, 151):
                        seen = end >= window and cut_places(key, window, part, LONG[end - window:end]) == [window]
                        self.assertEqual(end in found, seen)

    def test_a_change_far_away(self):
        text = LONG[:500]
        for window in (1, 4, 16):
            before = cut_places(GOOD_KEY, window, 7, text)
            for changed, many in [(text[:100] + text[101:], -1), (text[:100] + "!?" + text[100:], 2)]:
                after = cut_places(GOOD_KEY, window, 7, changed)
                self.assertEqual([end for end in after if end <= 100], [end for end in before if end <= 100])
                self.assertEqual(
                    [end for end in after if end >= 103 + window],
                    [end + many for end in before if end + many >= 103 + window])
                self.assertGreater(len(after), 10)


class Stretches(unittest.TestCase):
    def test_by_hand(self):
        self.assertEqual(stretches(*BEHIND_A, "bab-aa~"), ["ba", "b-a", "a", "~"])
        self.assertEqual(stretches((999, 1, 1), 2, 2, "abcde"), ["abc", "de"])
        self.assertEqual(stretches((999, 1, 1), 2, 7, "abcde"), ["abcd", "e"])

    def test_cut_at_the_end(self):
        self.assertEqual(stretches(*BEHIND_A, "bba"), ["bba"])
        self.assertEqual(stretches(*BEHIND_A, "abba"), ["a", "bba"])
        self.assertEqual(stretches(*BEHIND_A, "a"), ["a"])

    def test_no_cut(self):
        self.assertEqual(stretches(*BEHIND_A, "xyz"), ["xyz"])
        self.assertEqual(stretches(GOOD_KEY, 200, 1, "abc"), ["abc"])
        self.assertEqual(stretches(GOOD_KEY, 200, 1, LONG[:199]), [LONG[:199]])

    def test_no_signs(self):
        for key in KEYS:
            for window in (1, 200):
                for part in (1, 200):
                    self.assertEqual(stretches(key, window, part, ""), [])

    def test_cut_everywhere(self):
        self.assertEqual(stretches(GOOD_KEY, 1, 1, "abc"), ["a", "b", "c"])
        self.assertEqual(stretches(GOOD_KEY, 3, 1, "abcde"), ["abc", "d", "e"])
        self.assertEqual(stretches(GOOD_KEY, 1, 1, LONG), list(LONG))

    def test_together_they_are_the_text(self):
        for key in KEYS:
            for window in (1, 2, 5, 48, 200):
                for part in (1, 2, 7, 200):
                    for text in ("a", "ab", LONG[:260]):
                        with self.subTest(key=key, window=window, part=part, text=text[:20]):
                            found = stretches(key, window, part, text)
                            self.assertEqual("".join(found), text)
                            self.assertNotIn("", found)
                            self.assertEqual(found, slow_stretches(key, window, part, text))
                            ends = [len("".join(found[:many + 1])) for many in range(len(found))]
                            places = cut_places(key, window, part, text)
                            self.assertEqual(ends, places if places[-1:] == [len(text)] else places + [len(text)])


class FoundByCuts(unittest.TestCase):
    def test_by_hand(self):
        # Cut behind each "a": "ba", "cda", "xa" against "cda", "qa", "ba", "xa".
        self.assertEqual(
            found_by_cuts(*BEHIND_A, "bacdaxa", "cdaqabaxa"),
            [("copy", 2, 3), ("signs", "qa"), ("copy", 0, 2), ("copy", 5, 2)])

    def test_first_such_one(self):
        self.assertEqual(found_by_cuts(*BEHIND_A, "babaxaba", "ba"), [("copy", 0, 2)])
        self.assertEqual(found_by_cuts(*BEHIND_A, "xababa", "ba"), [("copy", 2, 2)])
        # Each is the first such one, even where the one behind would go on.
        self.assertEqual(found_by_cuts(*BEHIND_A, "baxaba", "xaba"), [("copy", 2, 2), ("copy", 0, 2)])

    def test_whole_stretches_alone(self):
        # "cd" stands in the elder text, but it is none of its stretches.
        self.assertEqual(found_by_cuts(*BEHIND_A, "bacda", "cd"), [("signs", "cd")])
        self.assertEqual(found_by_cuts(*BEHIND_A, "bacda", "da"), [("signs", "da")])
        self.assertEqual(found_by_cuts(*BEHIND_A, "bacd", "cd"), [("copy", 2, 2)])
        self.assertEqual(found_by_cuts(*BEHIND_A, "cd", "acd"), [("signs", "a"), ("copy", 0, 2)])

    def test_told_plain(self):
        self.assertEqual(found_by_cuts(*BEHIND_A, "baca", "baca"), [("copy", 0, 4)])
        self.assertEqual(found_by_cuts(*BEHIND_A, "b", "xayaz"), [("signs", "xayaz")])
        self.assertEqual(found_by_cuts(*BEHIND_A, "bacada", "cadaqaraba"), [
            ("copy", 2, 4), ("signs", "qara"), ("copy", 0, 2)])

    def test_no_signs(self):
        for key in KEYS:
            for window in (1, 2, 200):
                self.assertEqual(found_by_cuts(key, window, 3, "", ""), [])
                self.assertEqual(found_by_cuts(key, window, 3, "abc", ""), [])
                self.assertEqual(found_by_cuts(key, window, 3, "", "abc"), [("signs", "abc")])

    def test_sizes_beyond_the_texts(self):
        self.assertEqual(found_by_cuts(GOOD_KEY, 200, 200, "abc", "abc"), [("copy", 0, 3)])
        self.assertEqual(found_by_cuts(GOOD_KEY, 200, 200, "abc", "ab"), [("signs", "ab")])

    def test_all_small_texts(self):
        texts = small_texts("abc", 4)
        for key, window, part in [BEHIND_A, ((999, 1, 1), 2, 2), (SMALLEST_KEY, 2, 3), (GOOD_KEY, 3, 2)]:
            for elder in texts:
                for newer in texts:
                    found = found_by_cuts(key, window, part, elder, newer)
                    self.assertEqual(found, slow_found_by_cuts(key, window, part, elder, newer))
                    self.assertEqual(mended(elder, found), newer)

    def test_longer_texts(self):
        elder = LONG[:300]
        newer = LONG[40:90] + "!" + LONG[:60] + LONG[200:300] + LONG[3:50] + LONG[250:299]
        for key in KEYS:
            for window in (1, 2, 5, 16, 200):
                for part in (1, 2, 7, 200):
                    with self.subTest(key=key, window=window, part=part):
                        found = found_by_cuts(key, window, part, elder, newer)
                        self.assertEqual(found, slow_found_by_cuts(key, window, part, elder, newer))
                        self.assertEqual(mended(elder, found), newer)
                        self.assertEqual(plain(found), found)

    def test_2000_signs(self):
        for window, part in [(1, 1), (4, 7), (200, 200)]:
            found = found_by_cuts(GREATEST_KEY, window, part, LONG, "-" + LONG[:1999])
            self.assertEqual(mended(LONG, found), "-" + LONG[:1999])
        self.assertEqual(found_by_cuts(GOOD_KEY, 4, 7, LONG, LONG[::-1])[0][0], "signs")


class Refusals(unittest.TestCase):
    def uses(self, key, window, part, text):
        return [
            lambda: cut_places(key, window, part, text), lambda: stretches(key, window, part, text),
            lambda: found_by_cuts(key, window, part, text, "abc"), lambda: found_by_cuts(key, window, part, "abc", text),
            lambda: found_by_cuts(key, window, part, text, text), lambda: found_by_cuts(key, window, part, "", text),
        ]

    def check_refused(self, refusal, key, window, part, text):
        for use in self.uses(key, window, part, text):
            with self.assertRaises(refusal):
                use()

    def test_keys(self):
        for key in wrong_keys():
            with self.subTest(key=repr(key)):
                self.check_refused(NoKey, key, 2, 3, "abc")

    def test_sizes(self):
        for size in wrong_sizes():
            with self.subTest(size=repr(size)):
                self.check_refused(NoSize, GOOD_KEY, size, 3, "abc")
                self.check_refused(NoSize, GOOD_KEY, 2, size, "abc")
                self.check_refused(NoSize, GOOD_KEY, size, size, "abc")
                # A window beyond the text looks at no sum, but the part is refused all the same.
                self.check_refused(NoSize, GOOD_KEY, 200, size, "")

    def test_texts(self):
        for text in wrong_texts():
            with self.subTest(text=repr(text)[:40]):
                self.check_refused(NoSigns, GOOD_KEY, 2, 3, text)

    def test_which_one_is_named_first(self):
        for wrong in (None, True, "\n", [0], 0, -1, (0, 1, 1)):
            with self.subTest(wrong=wrong):
                self.check_refused(NoKey, wrong, wrong, wrong, wrong)
                self.check_refused(NoKey, wrong, wrong, 3, "abc")
                self.check_refused(NoKey, wrong, 2, wrong, "abc")
                self.check_refused(NoKey, wrong, 2, 3, wrong)
                self.check_refused(NoSize, GOOD_KEY, wrong, wrong, wrong)
                self.check_refused(NoSize, GOOD_KEY, wrong, 3, wrong)
                self.check_refused(NoSize, GOOD_KEY, 2, wrong, wrong)

    def test_bounds_are_taken(self):
        for key in KEYS:
            for window in (1, 200):
                for part in (1, 200):
                    for use in self.uses(key, window, part, "a" * 2000):
                        use()


class NothingKept(unittest.TestCase):
    def test_told_lists_are_new(self):
        for tell in (
            lambda: cut_places(GOOD_KEY, 2, 1, "abc"), lambda: cut_places(GOOD_KEY, 2, 1, ""),
            lambda: stretches(GOOD_KEY, 2, 1, "abc"), lambda: stretches(GOOD_KEY, 2, 1, ""),
            lambda: found_by_cuts(GOOD_KEY, 2, 1, "abc", "abd"), lambda: found_by_cuts(GOOD_KEY, 2, 1, "", ""),
        ):
            found = tell()
            before = list(found)
            found.append(9)
            found[0] = 8
            self.assertEqual(tell(), before)


if __name__ == "__main__":
    unittest.main()
