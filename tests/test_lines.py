import itertools
import unittest

from rollmend.errors import NoLetter, NoLines
from rollmend.letters import checked, plain
from rollmend.lines import read, shown
from tests.helper import ALL_SIGNS, LONG, PERCENT, other_kinds, wrong_letters

GREATEST = 10 ** 300 - 1
LETTERS = [
    [], [("copy", 0, 1)], [("copy", 10, 20)], [("copy", 100, 1000000)], [("signs", "a")], [("signs", " ")],
    [("signs", "   ")], [("signs", " a ")], [("signs", "copy 1 2")], [("signs", "signs x")], [("signs", "0")],
    [("signs", "~")], [("signs", "\\n")], [("signs", ALL_SIGNS)], [("signs", LONG)],
    [("copy", 0, 2), ("signs", "xy"), ("copy", 2, 1)], [("signs", "a"), ("signs", "b"), ("copy", 0, 1), ("copy", 1, 1)],
    [("copy", GREATEST, GREATEST)], [("copy", 10 ** 299, 10 ** 299)], [("copy", 0, GREATEST), ("copy", GREATEST, 1)],
    [("copy", 10 ** 64 - 1, 10 ** 64), ("copy", 10 ** 64 + 1, 10 ** 128 + 7)], [("copy", 12 * 10 ** 200 + 34, 1)],
    [("copy", 5, 6)] * 2000, [("signs", "a b")] * 2000, [("signs", LONG)] * 3,
]


class Shown(unittest.TestCase):
    def test_by_hand(self):
        self.assertEqual(shown([("copy", 0, 2), ("signs", "x y"), ("copy", 12, 305)]), "copy 0 2\nsigns x y\ncopy 12 305\n")

    def test_no_pieces(self):
        self.assertEqual(shown([]), "")

    def test_one_piece(self):
        self.assertEqual(shown([("copy", 7, 1)]), "copy 7 1\n")
        self.assertEqual(shown([("signs", " ")]), "signs  \n")
        self.assertEqual(shown([("signs", "copy 1 2")]), "signs copy 1 2\n")

    def test_not_made_plain(self):
        self.assertEqual(
            shown([("signs", "a"), ("signs", "b"), ("copy", 0, 1), ("copy", 1, 1)]),
            "signs a\nsigns b\ncopy 0 1\ncopy 1 1\n")

    def test_great_numbers(self):
        self.assertEqual(shown([("copy", 10 ** 299, GREATEST)]), "copy 1" + "0" * 299 + " " + "9" * 300 + "\n")
        for many in (63, 64, 65, 127, 128, 129, 192):
            for number in (10 ** many - 1, 10 ** many, 10 ** many + 1, 7 * 10 ** many + 10 ** 40):
                self.assertEqual(shown([("copy", number, number)]), "copy " + str(number) + " " + str(number) + "\n")

    def test_numbers_of_more_than_300_figures_are_written(self):
        for many in (300, 301, 1000, 5000):
            text = shown([("copy", 10 ** many, 10 ** many + 5)])
            self.assertEqual(text, "copy 1" + "0" * many + " 1" + "0" * (many - 1) + "5\n")
            with self.assertRaises(NoLines):
                read(text)

    def test_refuses_letters(self):
        for letter in wrong_letters():
            with self.subTest(letter=repr(letter)[:60]):
                with self.assertRaises(NoLetter):
                    shown(letter)

    def test_signs_put_together_beyond_2000(self):
        with self.assertRaises(NoLetter):
            shown(plain([("signs", LONG), ("signs", "a")]))


class Read(unittest.TestCase):
    def test_by_hand(self):
        self.assertEqual(read("copy 0 2\nsigns x y\ncopy 12 305\n"), [("copy", 0, 2), ("signs", "x y"), ("copy", 12, 305)])
        self.assertEqual(read(""), [])
        self.assertEqual(read("signs   a \n"), [("signs", "  a ")])
        self.assertEqual(read("signs copy 0 0\n"), [("signs", "copy 0 0")])

    def test_read_back(self):
        for letter in LETTERS:
            with self.subTest(letter=str(letter)[:60]):
                text = shown(letter)
                found = read(text)
                self.assertIsInstance(found, list)
                self.assertEqual(found, letter)
                self.assertEqual(checked(found), letter)
                self.assertEqual(shown(found), text)

    def test_small_letters_read_back(self):
        pieces = [("copy", 0, 1), ("copy", 10, 9), ("signs", " "), ("signs", "0 1"), ("signs", "signs ")]
        for many in range(5):
            for letter in itertools.product(pieces, repeat=many):
                self.assertEqual(read(shown(list(letter))), list(letter))

    def test_numbers_of_300_figures(self):
        self.assertEqual(read("copy " + "9" * 300 + " " + "1" * 300 + "\n"), [("copy", GREATEST, GREATEST // 9)])

    def test_2000_pieces_of_2000_signs(self):
        letter = [("signs", LONG)] * 2000
        self.assertEqual(read(shown(letter)), letter)


class ReadRefuses(unittest.TestCase):
    def check_refused(self, text):
        with self.subTest(text=repr(text)[:60]):
            with self.assertRaises(NoLines):
                read(text)

    def check_line_refused(self, line):
        for text in (line + "\n", "copy 0 1\n" + line + "\n", line + "\nsigns a\n"):
            self.check_refused(text)

    def test_other_kinds(self):
        for thing in other_kinds() + [0, 1, -1, [], ["copy 0 1\n"], (), ("copy 0 1\n",), b"copy 0 1\n", b"", [("copy", 0, 1)]]:
            self.check_refused(thing)

    def test_missing_line_end(self):
        for text in ("copy 0 1", "signs a", "copy 0 1\nsigns a", "signs a\ncopy 0 1", " ", "copy 0 1\n ", "a"):
            self.check_refused(text)

    def test_empty_lines(self):
        for text in ("\n", "\n\n", "\ncopy 0 1\n", "copy 0 1\n\n", "copy 0 1\n\nsigns a\n", "signs a\n\n"):
            self.check_refused(text)

    def test_other_line_ends(self):
        for end in ("\r\n", "\r", "\n\r", "\x0b", "\x0c", "\x1c", "\x85", "\u2028"):
            for line in ("copy 0 1", "signs a"):
                self.check_refused(line + end)
                self.check_refused(line + end + line + "\n")

    def test_other_words(self):
        for line in (
            "copy", "signs", "copy ", "signs ", "Copy 0 1", "COPY 0 1", "Signs a", "sign a", "copies 0 1", "a", " ",
            "0 1", "a b", "copy0 1", "signsa", "copy a", "signs\ta", "copy\t0 1", "copy 0\t1", "('copy', 0, 1)",
        ):
            self.check_line_refused(line)

    def test_blanks(self):
        for line in (
            " copy 0 1", "copy  0 1", "copy 0  1", "copy 0 1 ", " copy  0 1", " signs a", "  signs a", "copy 0 ",
            "copy  1", "copy 0", "copy 0 1 2", "copy 0 1 a", "copy   ",
        ):
            self.check_line_refused(line)

    def test_numbers(self):
        for word in (
            "00", "01", "007", "+1", "-1", "-0", "+0", "1_0", "0x1", "0b1", "1.0", "1e1", "a", "1a", "a1", "1,0", "",
            "\u0661", "\uff11", "\u00b2", "1\u0662", "1\r", "\x001", "1\xa0", "True", "None", "0" * 300 + "1", "0" * 300,
        ):
            self.check_line_refused("copy " + word + " 1")
            self.check_line_refused("copy 1 " + word)
            self.check_line_refused("copy " + word + " " + word)

    def test_more_than_300_figures(self):
        for many in (301, 302, 1000, 5000, 100000):
            self.check_line_refused("copy " + "1" * many + " 1")
            self.check_line_refused("copy 1 " + "1" * many)

    def test_copy_of_no_signs(self):
        for line in ("copy 0 0", "copy 5 0", "copy " + "9" * 300 + " 0"):
            self.check_line_refused(line)

    def test_signs_that_are_none(self):
        for text in (
            PERCENT, "a" + PERCENT, PERCENT + "a", "\t", "a\tb", "\x00", "\x1f", "\x7f", "\x80", "\u00e9", "a\u20ac",
            "\ud800", "a\r", "a" * 2001, LONG + " ",
        ):
            self.check_line_refused("signs " + text)

    def test_more_than_2000_pieces(self):
        for many in (2001, 5000):
            self.check_refused("copy 0 1\n" * many)
            self.check_refused("signs a\n" * many)
        self.assertEqual(len(read("copy 0 1\n" * 2000)), 2000)


class NothingKept(unittest.TestCase):
    def test_letter_stays(self):
        letter = [("signs", "a"), ("signs", "b"), ("copy", 0, 1), ("copy", 1, 1)]
        before = list(letter)
        shown(letter)
        self.assertEqual(letter, before)

    def test_told_letter_is_new(self):
        for text in ("", "copy 0 1\nsigns a\n"):
            found = read(text)
            before = list(found)
            found.append(("signs", "z"))
            found[0] = ("signs", "y")
            self.assertEqual(read(text), before)


if __name__ == "__main__":
    unittest.main()
