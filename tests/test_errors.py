"""The errors: which stands under which, and their attributes."""

import unittest

from notesttells import errors

UNDER = ("BadText", "BadPaper", "BadMachine", "TooLarge", "BadRatio")


class ErrorClasses(unittest.TestCase):
    def test_base_is_a_value_error(self):
        self.assertEqual(errors.TestError.__bases__, (ValueError,))

    def test_each_stands_under_the_base(self):
        for name in UNDER:
            with self.subTest(name=name):
                self.assertTrue(issubclass(getattr(errors, name), errors.TestError))

    def test_none_stands_under_another_one(self):
        for name in UNDER:
            for other in UNDER:
                if name != other:
                    with self.subTest(name=name, other=other):
                        self.assertFalse(issubclass(getattr(errors, name), getattr(errors, other)))

    def test_at(self):
        for name in ("BadText", "BadPaper"):
            for at in (0, 7):
                with self.subTest(name=name, at=at):
                    with self.assertRaises(errors.TestError) as caught:
                        raise getattr(errors, name)(at)
                    self.assertEqual(caught.exception.at, at)
                    self.assertIs(type(caught.exception), getattr(errors, name))

    def test_what(self):
        for name in ("BadMachine", "TooLarge"):
            for what in ("states", "answers"):
                with self.subTest(name=name, what=what):
                    with self.assertRaises(errors.TestError) as caught:
                        raise getattr(errors, name)(what)
                    self.assertEqual(caught.exception.what, what)
                    self.assertIs(type(caught.exception), getattr(errors, name))

    def test_attributes_belong_to_their_own_object(self):
        first, second = errors.BadText(1), errors.BadText(2)
        self.assertEqual((first.at, second.at), (1, 2))


if __name__ == "__main__":
    unittest.main()
