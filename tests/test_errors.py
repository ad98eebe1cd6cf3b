import unittest

from rollmend.errors import Beyond, MendError, NoCards, NoKey, NoLetter, NoLines, NoSigns, NoSize

REFUSALS = [NoSigns, NoKey, NoSize, NoLetter, Beyond, NoCards, NoLines]


class Errors(unittest.TestCase):
    def test_names(self):
        names = [refusal.__name__ for refusal in REFUSALS]
        self.assertEqual(names, ["NoSigns", "NoKey", "NoSize", "NoLetter", "Beyond", "NoCards", "NoLines"])
        self.assertEqual(MendError.__name__, "MendError")

    def test_mend_error_is_a_value_error(self):
        self.assertTrue(issubclass(MendError, ValueError))
        with self.assertRaises(ValueError):
            raise MendError("any")

    def test_mend_error_takes_each(self):
        for refusal in REFUSALS:
            with self.subTest(refusal=refusal.__name__):
                with self.assertRaises(MendError):
                    raise refusal("any")
                with self.assertRaises(ValueError):
                    raise refusal("any")

    def test_none_is_another_one(self):
        for refusal in REFUSALS:
            self.assertFalse(issubclass(MendError, refusal))
            for other in REFUSALS:
                with self.subTest(refusal=refusal.__name__, other=other.__name__):
                    self.assertEqual(issubclass(refusal, other), refusal is other)


if __name__ == "__main__":
    unittest.main()
