"""The errors of the interface (point 2)."""

import unittest

from leastshelf import errors
from samples import ERRORS, ODD_VALUES, PARAMETER


class ErrorsTest(unittest.TestCase):
    def test_base(self):
        self.assertTrue(issubclass(errors.StoreError, ValueError))
        self.assertFalse(issubclass(errors.StoreError, errors.BadKind))

    def test_each_error_is_under_the_base_alone(self):
        self.assertEqual(len(PARAMETER), 35)
        for name in PARAMETER:
            error = getattr(errors, name)
            self.assertTrue(issubclass(error, errors.StoreError))
            for other in PARAMETER:
                self.assertEqual(issubclass(error, getattr(errors, other)), name == other)

    def test_parameter_is_an_attribute(self):
        for parameter, names in ERRORS.items():
            for name in names.split():
                error = getattr(errors, name)
                if parameter is None:
                    self.assertIsInstance(error(), errors.StoreError)
                else:
                    self.assertEqual(getattr(error(7), parameter), 7)
                    self.assertEqual(getattr(error("x"), parameter), "x")

    def test_parameter_may_be_any_value(self):
        for value in ODD_VALUES:
            for parameter, names in ERRORS.items():
                for name in names.split() if parameter else ():
                    error = getattr(errors, name)(value)
                    self.assertIs(getattr(error, parameter), value)
                    self.assertIsInstance(str(error), str)


if __name__ == "__main__":
    unittest.main()
