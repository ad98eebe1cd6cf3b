"""What the document promises over the whole program, the files being used together."""

import unittest

from rollmend.cards import cards, found_by
from rollmend.cuts import cut_places, found_by_cuts, stretches
from rollmend.errors import MendError
from rollmend.leasts import back, least
from rollmend.letters import behind, checked, cost, mended, plain
from rollmend.lines import read, shown
from rollmend.sums import first_sum, rolled, second_sum, whole_sum
from rollmend.talks import talk
from tests.helper import GOOD_KEY, KEYS, LONG, other_kinds

PAIRS = [
    ("", ""), ("", "abc"), ("abc", ""), ("abc", "abc"), ("abab", "babab"), ("the elder text", "see the elder text!"),
    (LONG[:120], LONG[60:120] + "!" + LONG[:50]), ("~ ~  ~", " ~~ "),
]
LETTER = [("copy", 0, 2), ("signs", "x"), ("signs", "y"), ("copy", 1, 1)]
# Each function with what it takes gladly.
USES = [
    (first_sum, (GOOD_KEY, "abc")), (second_sum, (GOOD_KEY, "abc")), (whole_sum, (GOOD_KEY, "abc")),
    (rolled, (GOOD_KEY, (1, 2), 3, "a", "b")),
    (checked, (LETTER,)), (mended, ("abc", LETTER)), (cost, (LETTER,)), (plain, (LETTER,)),
    (behind, (LETTER, LETTER)),
    (cards, (GOOD_KEY, 2, "abcd")), (found_by, (GOOD_KEY, 2, [((1, 2), 3)], "abcd")),
    (talk, (GOOD_KEY, 2, "abcd", "cdab")), (least, ("abcd", "cdab")), (back, ("abcd", LETTER)),
    (cut_places, (GOOD_KEY, 2, 3, "abcd")), (stretches, (GOOD_KEY, 2, 3, "abcd")),
    (found_by_cuts, (GOOD_KEY, 2, 3, "abcd", "cdab")),
    (shown, (LETTER,)), (read, ("copy 0 2\nsigns x\n",)),
]


def found_letters(key, elder, newer):
    """Letters that make the newer text, whichever way they are found; by sums only where none fall together."""
    letters = [least(elder, newer)]
    for size in (1, 2, 5, 200):
        letters.append(found_by_cuts(key, size, 3, elder, newer))
        if key == GOOD_KEY:
            letters.append(found_by((999, 31, 99991), size, cards((999, 31, 99991), size, elder), newer))
    return letters


class Together(unittest.TestCase):
    def test_all_ways_make_the_newer_text(self):
        for elder, newer in PAIRS:
            for key in KEYS:
                for letter in found_letters(key, elder, newer):
                    with self.subTest(elder=elder[:20], newer=newer[:20], key=key):
                        self.assertEqual(mended(elder, letter), newer)
                        self.assertEqual(plain(letter), letter)
                        self.assertEqual(read(shown(letter)), letter)
                        self.assertLessEqual(cost(least(elder, newer)), cost(letter))

    def test_there_and_back(self):
        for elder, newer in PAIRS:
            for letter in found_letters(GOOD_KEY, elder, newer):
                with self.subTest(elder=elder[:20], newer=newer[:20]):
                    home = back(elder, letter)
                    self.assertEqual(home, least(newer, elder))
                    self.assertEqual(mended(elder, behind(letter, home)), elder)

    def test_talks(self):
        for elder, newer in PAIRS:
            for key in KEYS:
                for size in (1, 2, 5, 200):
                    how, text, letter = talk(key, size, elder, newer)
                    self.assertIn(how, ("mended", "told"))
                    self.assertEqual(read(shown(letter)), letter)
                    self.assertEqual(mended(elder, letter), text)
                    self.assertEqual(whole_sum(key, text), whole_sum(key, newer))
                    if how == "told":
                        self.assertEqual(text, newer)


class OverTheWhole(unittest.TestCase):
    def test_equal_things_give_equal_answers(self):
        for use, given in USES:
            with self.subTest(use=use.__name__):
                self.assertEqual(use(*given), use(*given))

    def test_nothing_is_changed(self):
        for use, given in USES:
            with self.subTest(use=use.__name__):
                before = repr(given)
                use(*given)
                self.assertEqual(repr(given), before)

    def test_lists_are_new(self):
        for use, given in USES:
            found = use(*given)
            if isinstance(found, list):
                with self.subTest(use=use.__name__):
                    self.assertIsNot(found, use(*given))
                    self.assertFalse([thing for thing in given if thing is found])

    def test_things_of_any_kind(self):
        # The numbers, signs and sum that are rolled are refused nowhere, so they are left as they are.
        for use, given in USES:
            for at in range(1 if use is rolled else len(given)):
                for wrong in other_kinds():
                    changed = list(given)
                    changed[at] = wrong
                    with self.subTest(use=use.__name__, at=at, wrong=repr(wrong)):
                        with self.assertRaises(MendError):
                            use(*changed)


if __name__ == "__main__":
    unittest.main()
