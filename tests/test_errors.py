"""The errors of the interface (point 2)."""

import unittest

from leastshelf import errors
from samples import ODD_VALUES

PARAMETERS = {
    "name": "BadKind BadName Taken Unknown Outside Refused",
    "key": "BadKey Unordered Sandwiched",
    "number": "Fewer BadLimit TooMany",
    "line": "BadLog",
    "what": "TooLarge",
    "place": "BadWord BadEffect BadStretch BadField BadBatch BadStep BadMenu BadTable BadRun BadMark NoPlace NotClosed "
             "BadSteps NotRight BadPlan BadSizes",
    "": "BadLeast Loose OtherBook OtherWindow Closed",
}


class ErrorsTest(unittest.TestCase):
    def test_base(self):
        self.assertTrue(issubclass(errors.StoreError, ValueError))

    def test_each_error_is_under_the_base_alone(self):
        names = " ".join(PARAMETERS.values()).split()
        self.assertEqual(len(names), 35)
        for name in names:
            error = getattr(errors, name)
            self.assertTrue(issubclass(error, errors.StoreError))
            for other in names:
                self.assertEqual(issubclass(error, getattr(errors, other)), name == other)

    def test_parameter_is_an_attribute(self):
        for parameter, names in PARAMETERS.items():
            for name in names.split():
                error = getattr(errors, name)
                if parameter == "":
                    self.assertEqual(vars(error()), {})
                    continue
                self.assertEqual(vars(error(7)), {parameter: 7})
                self.assertEqual(vars(error(**{parameter: "x"})), {parameter: "x"})
                self.assertRaises(TypeError, error)

    def test_any_value_may_be_told(self):
        for value in ODD_VALUES:
            error = errors.BadKey(value)
            self.assertIs(error.key, value)
            self.assertIsInstance(str(error), str)

    def test_short_values_are_shown(self):
        self.assertIn("17", str(errors.BadWord(17)))
        self.assertIn("lisp", str(errors.BadKind("lisp")))
        self.assertIn("None", str(errors.NoPlace(None)))
        self.assertIn("True", str(errors.NoPlace(True)))
        self.assertLess(len(str(errors.BadKind("x" * 1000))), 100)


if __name__ == "__main__":
    unittest.main()
