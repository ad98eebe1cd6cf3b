import itertools
import unittest

from rollmend.errors import Beyond, NoLetter, NoSigns
from rollmend.letters import behind, checked, cost, mended, plain
from tests.helper import LONG, atoms, of_atoms, slow_behind, wrong_letters, wrong_texts

HUGE = 10 ** 400
GOOD = [("copy", 0, 2), ("signs", "xy"), ("copy", 2, 1)]


def small_letters(pieces, most):
    for many in range(most + 1):
        for chosen in itertools.product(pieces, repeat=many):
            yield list(chosen)


class Checked(unittest.TestCase):
    def test_takes_letters(self):
        for letter in [
            [], GOOD, [("copy", 0, 1)], [("copy", HUGE, HUGE)], [("signs", " ")], [("signs", "~" * 2000)],
            [("signs", "copy")], [("copy", 0, 1)] * 2000, [("signs", "a")] * 2000,
        ]:
            found = checked(letter)
            self.assertEqual(found, letter)
            self.assertIsInstance(found, list)

    def test_new_list(self):
        letter = list(GOOD)
        found = checked(letter)
        self.assertIsNot(found, letter)
        found.append(("signs", "z"))
        self.assertEqual(letter, GOOD)
        self.assertEqual(checked(letter), GOOD)
        empty = []
        self.assertIsNot(checked(empty), empty)

    def test_not_made_plain(self):
        letter = [("signs", "a"), ("signs", "b"), ("copy", 0, 1), ("copy", 1, 1)]
        self.assertEqual(checked(letter), letter)


class Mended(unittest.TestCase):
    def test_no_pieces(self):
        self.assertEqual(mended("", []), "")
        self.assertEqual(mended("abc", []), "")

    def test_pieces_in_order(self):
        self.assertEqual(mended("abc", GOOD), "abxyc")
        self.assertEqual(mended("abc", [("copy", 2, 1), ("copy", 0, 3), ("copy", 1, 1)]), "cabcb")
        self.assertEqual(mended("abc", [("signs", "copy"), ("signs", " "), ("signs", "~")]), "copy ~")

    def test_to_the_very_end(self):
        self.assertEqual(mended("abc", [("copy", 0, 3)]), "abc")
        self.assertEqual(mended("abc", [("copy", 2, 1)]), "c")
        self.assertEqual(mended(LONG, [("copy", 0, 2000)]), LONG)
        self.assertEqual(mended(LONG, [("copy", 1999, 1)]), LONG[-1])

    def test_one_sign_beyond(self):
        for copy in [("copy", 0, 4), ("copy", 1, 3), ("copy", 2, 2), ("copy", 3, 1), ("copy", 4, 1)]:
            for letter in ([copy], [("signs", "a"), copy], [copy, ("signs", "a")], [("copy", 0, 3), copy]):
                with self.subTest(letter=letter):
                    with self.assertRaises(Beyond):
                        mended("abc", letter)

    def test_any_size(self):
        for copy in [("copy", HUGE, 1), ("copy", 0, HUGE), ("copy", HUGE, HUGE), ("copy", 2 ** 63, 2 ** 64)]:
            with self.assertRaises(Beyond):
                mended("abc", [copy])

    def test_empty_elder(self):
        self.assertEqual(mended("", [("signs", "abc")]), "abc")
        for copy in [("copy", 0, 1), ("copy", 1, 1), ("copy", 0, 2)]:
            with self.assertRaises(Beyond):
                mended("", [copy])

    def test_more_than_2000_signs(self):
        self.assertEqual(mended(LONG, [("copy", 0, 2000), ("signs", "a")]), LONG + "a")
        self.assertEqual(mended(LONG, [("copy", 0, 2000)] * 3), LONG * 3)
        self.assertEqual(mended("", [("signs", LONG)] * 2), LONG * 2)
        self.assertEqual(len(mended(LONG, [("copy", 0, 2000)] * 2000)), 4000000)


class Cost(unittest.TestCase):
    def test_cost(self):
        self.assertEqual(cost([]), 0)
        self.assertEqual(cost([("copy", 5, 100)]), 1)
        self.assertEqual(cost([("copy", HUGE, HUGE)]), 1)
        self.assertEqual(cost([("signs", "abc")]), 3)
        self.assertEqual(cost(GOOD), 4)
        self.assertEqual(cost([("signs", LONG)] * 2), 4000)
        self.assertEqual(cost([("copy", 0, 1)] * 2000), 2000)

    def test_as_it_stands(self):
        self.assertEqual(cost([("copy", 0, 1), ("copy", 1, 1), ("signs", "a"), ("signs", "bc")]), 5)


class Plain(unittest.TestCase):
    def test_nothing_to_do(self):
        for letter in [[], GOOD, [("copy", 0, 2), ("copy", 0, 2)], [("copy", 2, 2), ("copy", 0, 2)]]:
            found = plain(letter)
            self.assertEqual(found, letter)
            self.assertIsNot(found, letter)

    def test_signs_beside_signs(self):
        self.assertEqual(plain([("signs", "a"), ("signs", "bc")]), [("signs", "abc")])
        self.assertEqual(plain([("signs", "a"), ("signs", "b"), ("signs", "c"), ("signs", "d")]), [("signs", "abcd")])
        letter = [("signs", "a"), ("copy", 0, 1), ("signs", "b"), ("signs", "c"), ("copy", 1, 1), ("signs", "d")]
        self.assertEqual(
            plain(letter), [("signs", "a"), ("copy", 0, 1), ("signs", "bc"), ("copy", 1, 1), ("signs", "d")])

    def test_copies_that_go_on(self):
        self.assertEqual(plain([("copy", 3, 2), ("copy", 5, 4)]), [("copy", 3, 6)])
        self.assertEqual(plain([("copy", 0, 1), ("copy", 1, 1), ("copy", 2, 1), ("copy", 3, 5)]), [("copy", 0, 8)])
        self.assertEqual(plain([("copy", HUGE, HUGE), ("copy", 2 * HUGE, 1)]), [("copy", HUGE, HUGE + 1)])

    def test_copies_that_do_not(self):
        for letter in [
            [("copy", 3, 2), ("copy", 4, 1)], [("copy", 3, 2), ("copy", 6, 1)], [("copy", 3, 2), ("copy", 3, 2)],
            [("copy", 5, 2), ("copy", 3, 2)], [("copy", 0, 1), ("signs", "a"), ("copy", 1, 1)],
        ]:
            self.assertEqual(plain(letter), letter)
        self.assertEqual(
            plain([("copy", 0, 1), ("copy", 1, 1), ("copy", 1, 1), ("copy", 2, 1)]), [("copy", 0, 2), ("copy", 1, 2)])

    def test_more_than_2000_signs(self):
        found = plain([("signs", LONG), ("signs", "a")])
        self.assertEqual(found, [("signs", LONG + "a")])
        for use in (checked, cost, plain):
            with self.assertRaises(NoLetter):
                use(found)
        self.assertEqual(plain([("signs", LONG)] * 2000), [("signs", LONG * 2000)])

    def test_all_small_letters(self):
        pieces = [("copy", 0, 1), ("copy", 1, 1), ("copy", 1, 2), ("copy", 0, 3), ("signs", "x"), ("signs", "yz")]
        for letter in small_letters(pieces, 4):
            found = plain(letter)
            self.assertEqual(found, of_atoms(atoms(letter)))
            self.assertEqual(plain(found), found)
            self.assertEqual(mended("abc", found), mended("abc", letter))


class Behind(unittest.TestCase):
    def test_no_pieces(self):
        self.assertEqual(behind([], []), [])
        self.assertEqual(behind(GOOD, []), [])
        self.assertEqual(behind([], [("signs", "a"), ("signs", "b")]), [("signs", "ab")])

    def test_cut_where_pieces_end(self):
        one = [("copy", 10, 3), ("signs", "wxyz"), ("copy", 0, 2)]
        self.assertEqual(behind(one, [("copy", 0, 9)]), one)
        self.assertEqual(behind(one, [("copy", 0, 3)]), [("copy", 10, 3)])
        self.assertEqual(behind(one, [("copy", 3, 4)]), [("signs", "wxyz")])
        self.assertEqual(behind(one, [("copy", 7, 2)]), [("copy", 0, 2)])
        self.assertEqual(behind(one, [("copy", 1, 1)]), [("copy", 11, 1)])
        self.assertEqual(behind(one, [("copy", 4, 2)]), [("signs", "xy")])
        self.assertEqual(behind(one, [("copy", 2, 2)]), [("copy", 12, 1), ("signs", "w")])
        self.assertEqual(behind(one, [("copy", 2, 6)]), [("copy", 12, 1), ("signs", "wxyz"), ("copy", 0, 1)])

    def test_signs_within(self):
        one = [("copy", 4, 2), ("signs", "ab")]
        other = [("signs", "x"), ("copy", 2, 2), ("signs", "y"), ("copy", 0, 1), ("signs", "z")]
        self.assertEqual(behind(one, other), [("signs", "xaby"), ("copy", 4, 1), ("signs", "z")])

    def test_told_plain(self):
        self.assertEqual(behind([("copy", 0, 2), ("copy", 2, 2)], [("copy", 0, 4)]), [("copy", 0, 4)])
        self.assertEqual(behind([("copy", 5, 4)], [("copy", 0, 1), ("copy", 1, 3)]), [("copy", 5, 4)])
        # Far from each other in what the first one makes, side by side in the elder text.
        one = [("copy", 2, 2), ("signs", "q"), ("copy", 0, 2)]
        self.assertEqual(behind(one, [("copy", 3, 2), ("copy", 0, 2)]), [("copy", 0, 4)])

    def test_to_the_very_end(self):
        one = [("copy", 0, 2), ("signs", "ab")]
        self.assertEqual(behind(one, [("copy", 3, 1)]), [("signs", "b")])
        for copy in [("copy", 3, 2), ("copy", 4, 1), ("copy", 0, 5), ("copy", HUGE, 1), ("copy", 0, HUGE)]:
            for other in ([copy], [("copy", 0, 4), copy], [copy, ("signs", "a")]):
                with self.subTest(other=str(other)[:60]):
                    with self.assertRaises(Beyond):
                        behind(one, other)

    def test_behind_no_signs(self):
        for copy in [("copy", 0, 1), ("copy", 1, 1)]:
            with self.assertRaises(Beyond):
                behind([], [copy])

    def test_any_size(self):
        one = [("copy", HUGE, HUGE), ("signs", "ab"), ("copy", 3, HUGE)]
        other = [("copy", HUGE - 1, 4), ("copy", 0, HUGE)]
        self.assertEqual(
            behind(one, other), [("copy", 2 * HUGE - 1, 1), ("signs", "ab"), ("copy", 3, 1), ("copy", HUGE, HUGE)])
        with self.assertRaises(Beyond):
            behind(one, [("copy", 2 * HUGE + 2, 1)])
        self.assertEqual(behind(one, [("copy", 2 * HUGE + 1, 1)]), [("copy", HUGE + 2, 1)])

    def test_more_than_2000_signs(self):
        one = [("signs", LONG), ("signs", LONG)]
        self.assertEqual(behind(one, [("copy", 0, 4000)]), [("signs", LONG * 2)])
        self.assertEqual(behind(one, [("copy", 1999, 2)]), [("signs", LONG[-1] + LONG[0])])
        with self.assertRaises(Beyond):
            behind(one, [("copy", 1999, 2002)])
        self.assertEqual(behind([], [("signs", LONG), ("signs", "a")]), [("signs", LONG + "a")])

    def test_more_than_2000_pieces(self):
        one = [("copy", 0, 1), ("signs", "a")] * 1000
        found = behind(one, [("copy", 0, 2000)] * 3)
        self.assertEqual(found, one * 3)

    def test_all_small_letters(self):
        pieces = [("copy", 0, 2), ("copy", 1, 2), ("copy", 2, 1), ("signs", "x"), ("signs", "yz")]
        letters = list(small_letters(pieces, 3))
        for one in letters:
            made = mended("abc", one)
            for other in letters:
                if self.goes_beyond(made, other):
                    with self.assertRaises(Beyond):
                        behind(one, other)
                    continue
                found = behind(one, other)
                self.assertEqual(found, slow_behind(one, other))
                self.assertEqual(mended("abc", found), mended(made, other))

    def goes_beyond(self, made, letter):
        return any(piece[0] == "copy" and piece[1] + piece[2] > len(made) for piece in letter)

    def test_three_letters_either_way(self):
        pieces = [("copy", 0, 3), ("copy", 1, 2), ("copy", 3, 1), ("signs", "x"), ("signs", "yz")]
        letters = [letter for letter in small_letters(pieces, 3) if len(mended("abcd", letter)) >= 4][::5]
        self.assertGreater(len(letters), 15)
        for one, two, three in itertools.product(letters, repeat=3):
            found = behind(behind(one, two), three)
            self.assertEqual(found, behind(one, behind(two, three)))
            self.assertEqual(mended("abcd", found), mended(mended(mended("abcd", one), two), three))


class Refusals(unittest.TestCase):
    def test_letters(self):
        for letter in wrong_letters():
            with self.subTest(letter=repr(letter)[:60]):
                for use in (checked, cost, plain):
                    with self.assertRaises(NoLetter):
                        use(letter)
                with self.assertRaises(NoLetter):
                    mended("abc", letter)
                with self.assertRaises(NoLetter):
                    behind(letter, GOOD)
                with self.assertRaises(NoLetter):
                    behind(GOOD, letter)

    def test_texts(self):
        for elder in wrong_texts():
            with self.subTest(elder=repr(elder)[:40]):
                with self.assertRaises(NoSigns):
                    mended(elder, [])

    def test_two_at_once(self):
        for letter in (None, (), [("copy", 0, 0)], [("copy", 0, True)], [("signs", "")]):
            with self.assertRaises(NoSigns):
                mended("\n", letter)
            with self.assertRaises(NoSigns):
                mended(None, letter)
        with self.assertRaises(NoSigns):
            mended("a" * 2001, [("copy", 3000, 1)])
        with self.assertRaises(NoLetter):
            mended("abc", [("copy", 9, 1), ("copy", 0, 0)])
        with self.assertRaises(NoLetter):
            behind([("copy", 0, 1)], [("copy", 9, 1), ("signs", "")])
        with self.assertRaises(NoLetter):
            behind([("copy", 0, 1), ("signs", "\n")], [("copy", 9, 1)])


class NothingChanged(unittest.TestCase):
    def test_letters_stay(self):
        one = [("signs", "a"), ("signs", "b"), ("copy", 0, 1), ("copy", 1, 1)]
        other = [("copy", 0, 2), ("copy", 2, 2), ("signs", "c"), ("signs", "d")]
        one_before = list(one)
        other_before = list(other)
        for use in (checked, cost, plain):
            use(one)
        mended("abc", one)
        behind(one, other)
        self.assertEqual(one, one_before)
        self.assertEqual(other, other_before)

    def test_told_lists_are_new(self):
        one = [("copy", 0, 2), ("signs", "b")]
        other = [("copy", 0, 3)]
        for tell in (lambda: plain(one), lambda: checked(one), lambda: behind(one, other), lambda: behind([], [])):
            found = tell()
            before = list(found)
            found.append(("signs", "z"))
            found[0] = ("signs", "y")
            self.assertEqual(tell(), before)
        self.assertEqual(one, [("copy", 0, 2), ("signs", "b")])
        self.assertEqual(other, [("copy", 0, 3)])


if __name__ == "__main__":
    unittest.main()
