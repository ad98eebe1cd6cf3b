"""The names and arguments of the interface, as the document tells them."""

import inspect
import unittest

from rollmend import cards, cuts, leasts, letters, lines, sums, talks

TOLD = [
    (sums, "first_sum", ["key", "text"]),
    (sums, "rolled", ["key", "found", "many", "gone", "come"]),
    (sums, "second_sum", ["key", "text"]),
    (sums, "whole_sum", ["key", "text"]),
    (letters, "checked", ["letter"]),
    (letters, "mended", ["elder", "letter"]),
    (letters, "cost", ["letter"]),
    (letters, "plain", ["letter"]),
    (letters, "behind", ["one", "other"]),
    (cards, "cards", ["key", "size", "elder"]),
    (cards, "found_by", ["key", "size", "told", "newer"]),
    (talks, "talk", ["key", "size", "elder", "newer"]),
    (leasts, "least", ["elder", "newer"]),
    (leasts, "back", ["elder", "letter"]),
    (cuts, "cut_places", ["key", "window", "part", "text"]),
    (cuts, "stretches", ["key", "window", "part", "text"]),
    (cuts, "found_by_cuts", ["key", "window", "part", "elder", "newer"]),
    (lines, "shown", ["letter"]),
    (lines, "read", ["text"]),
]


class Interface(unittest.TestCase):
    def test_names_and_arguments(self):
        for module, name, arguments in TOLD:
            with self.subTest(name=name):
                self.assertEqual(list(inspect.signature(getattr(module, name)).parameters), arguments)


if __name__ == "__main__":
    unittest.main()
