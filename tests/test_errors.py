import unittest

from fairsplit import errors
from fairsplit.errors import SplitError

NAMES = ("NoPeople", "TooMany", "Uneven", "BadBid", "NoDeal", "NoPerson", "NoGood", "NoText")


class Errors(unittest.TestCase):
    def test_split_error_is_a_value_error(self):
        self.assertEqual(SplitError.__bases__, (ValueError,))

    def test_each_is_a_split_error_and_a_value_error(self):
        for name in NAMES:
            with self.subTest(name):
                kind = getattr(errors, name)
                self.assertTrue(issubclass(kind, SplitError))
                self.assertTrue(issubclass(kind, ValueError))
                self.assertIsNot(kind, SplitError)

    def test_none_is_under_another_one(self):
        for name in NAMES:
            for other in NAMES:
                if name != other:
                    with self.subTest(name=name, other=other):
                        self.assertFalse(issubclass(getattr(errors, name), getattr(errors, other)))

    def test_each_can_be_raised_and_caught(self):
        for name in NAMES:
            with self.subTest(name), self.assertRaises(SplitError):
                raise getattr(errors, name)("why")

    def test_each_is_defined_in_its_file(self):
        for name in ("SplitError",) + NAMES:
            with self.subTest(name):
                kind = getattr(errors, name)
                self.assertEqual(kind.__module__, "fairsplit.errors")
                self.assertEqual(kind.__name__, name)


if __name__ == "__main__":
    unittest.main()
