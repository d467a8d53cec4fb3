import unittest

from beststretch import errors


class ErrorClasses(unittest.TestCase):
    def test_stretch_error_stands_straight_under_value_error(self):
        self.assertEqual(errors.StretchError.__bases__, (ValueError,))

    def test_each_refusal_stands_straight_under_stretch_error(self):
        for name in ("BadRow", "BadLeast", "BadTotal", "BadMany"):
            with self.subTest(name=name):
                self.assertEqual(getattr(errors, name).__bases__, (errors.StretchError,))
                self.assertEqual(getattr(errors, name).__name__, name)

    def test_the_refusals_are_told_apart(self):
        found = {errors.BadRow, errors.BadLeast, errors.BadTotal, errors.BadMany}
        self.assertEqual(len(found), 4)
        for one in found:
            for other in found - {one}:
                self.assertFalse(issubclass(one, other))

    def test_each_is_raised_with_words(self):
        for kind in (errors.StretchError, errors.BadRow, errors.BadLeast, errors.BadTotal, errors.BadMany):
            with self.subTest(kind=kind):
                with self.assertRaises(errors.StretchError) as caught:
                    raise kind("some words")
                self.assertEqual(str(caught.exception), "some words")
