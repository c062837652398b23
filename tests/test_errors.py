"""The error classes of the interface: pilotpair/errors.py."""
import unittest

from pilotpair import errors
from pilotpair.errors import NoSuch, PairError, Twice


class Names(unittest.TestCase):
    def test_each_is_called_as_the_interface_says(self):
        for name in ("PairError", "NoSuch", "Twice"):
            self.assertEqual(getattr(errors, name).__name__, name)

    def test_each_is_defined_in_its_file(self):
        for kind in (PairError, NoSuch, Twice):
            self.assertEqual(kind.__module__, "pilotpair.errors")


class Bases(unittest.TestCase):
    def test_pair_error_stands_under_value_error(self):
        self.assertEqual(PairError.__bases__, (ValueError,))

    def test_no_such_stands_under_pair_error(self):
        self.assertEqual(NoSuch.__bases__, (PairError,))

    def test_twice_stands_under_pair_error(self):
        self.assertEqual(Twice.__bases__, (PairError,))

    def test_the_two_refusals_are_apart(self):
        self.assertFalse(issubclass(NoSuch, Twice))
        self.assertFalse(issubclass(Twice, NoSuch))


class Raised(unittest.TestCase):
    def test_each_is_caught_by_its_own_name(self):
        for kind in (PairError, NoSuch, Twice):
            with self.subTest(kind=kind), self.assertRaises(kind):
                raise kind("words")

    def test_each_is_caught_as_pair_error(self):
        for kind in (PairError, NoSuch, Twice):
            with self.subTest(kind=kind), self.assertRaises(PairError):
                raise kind("words")

    def test_each_is_caught_as_value_error(self):
        for kind in (PairError, NoSuch, Twice):
            with self.subTest(kind=kind), self.assertRaises(ValueError):
                raise kind("words")

    def test_one_refusal_is_not_caught_as_the_other(self):
        for kind, another in ((NoSuch, Twice), (Twice, NoSuch)):
            with self.subTest(kind=kind), self.assertRaises(kind):
                try:
                    raise kind("words")
                except another:
                    pass

    def test_words_are_kept_and_may_be_left_out(self):
        for kind in (PairError, NoSuch, Twice):
            self.assertEqual(str(kind("words")), "words")
            self.assertEqual(str(kind()), "")


if __name__ == "__main__":
    unittest.main()
