"""The interface of samebook/errors.py."""

import unittest

from samebook.errors import NoMoment, NoRow, NoThing, SameError

KINDS = (NoRow, NoThing, NoMoment)


class Errors(unittest.TestCase):
    def test_same_error_is_a_value_error(self):
        self.assertEqual(SameError.__bases__, (ValueError,))

    def test_each_is_a_same_error_and_a_value_error(self):
        for kind in KINDS:
            with self.subTest(kind=kind.__name__):
                self.assertEqual(kind.__bases__, (SameError,))
                self.assertTrue(issubclass(kind, ValueError))
                with self.assertRaises(SameError):
                    raise kind("words")
                with self.assertRaises(ValueError):
                    raise kind("words")

    def test_none_is_another(self):
        for kind in KINDS:
            for other in KINDS:
                with self.subTest(kind=kind.__name__, other=other.__name__):
                    self.assertEqual(issubclass(kind, other), kind == other)
            self.assertFalse(issubclass(SameError, kind))

    def test_names(self):
        names = [kind.__name__ for kind in (SameError,) + KINDS]
        self.assertEqual(names, ["SameError", "NoRow", "NoThing", "NoMoment"])


if __name__ == "__main__":
    unittest.main()
