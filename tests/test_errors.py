"""Promises under acquit/errors.py of the interface."""

import unittest

from acquit import errors

KINDS = ("BadSetup", "NoSuch", "BadStage", "Stopped")


class ErrorsTest(unittest.TestCase):
    def test_the_common_error_is_right_below_value_error(self):
        self.assertEqual(errors.AcquitError.__bases__, (ValueError,))

    def test_each_error_is_right_below_the_common_one(self):
        for kind in KINDS:
            with self.subTest(kind=kind):
                self.assertEqual(getattr(errors, kind).__bases__, (errors.AcquitError,))

    def test_the_errors_are_five_classes(self):
        classes = [getattr(errors, kind) for kind in ("AcquitError", *KINDS)]
        self.assertEqual(len(set(classes)), 5)

    def test_each_error_is_defined_in_its_file(self):
        for kind in ("AcquitError", *KINDS):
            with self.subTest(kind=kind):
                self.assertEqual(getattr(errors, kind).__name__, kind)
                self.assertEqual(getattr(errors, kind).__module__, "acquit.errors")

    def test_an_error_is_made_and_raised_without_arguments(self):
        for kind in ("AcquitError", *KINDS):
            with self.subTest(kind=kind):
                with self.assertRaises(ValueError) as caught:
                    raise getattr(errors, kind)()
                self.assertEqual(caught.exception.args, ())


if __name__ == "__main__":
    unittest.main()
