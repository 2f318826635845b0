"""The error classes of the interface."""

import unittest

from resttricks import errors
from tests.wrong import HUGE

WITHOUT_FIELDS = ("BadBase", "BadTake", "BadTimes", "BadTrick", "BadDivisor", "BadSum", "BadRest")
FIELDS = {
    "BadNumber": "n",
    "BadFigures": "index",
    "BadWeights": "index",
    "BadRests": "index",
    "BadTricks": "index",
    "BadPairs": "index",
    "TooWide": "most",
    "InvalidText": "word",
}


class ErrorClasses(unittest.TestCase):

    def test_base_class(self):
        self.assertEqual(errors.TrickError.__bases__, (ValueError,))

    def test_each_is_directly_under_the_base_class(self):
        for name in WITHOUT_FIELDS + tuple(FIELDS):
            self.assertEqual(getattr(errors, name).__bases__, (errors.TrickError,), name)

    def test_each_is_defined_here(self):
        for name in ("TrickError",) + WITHOUT_FIELDS + tuple(FIELDS):
            self.assertEqual(getattr(errors, name).__module__, "resttricks.errors", name)

    def test_fields_are_set_when_created(self):
        for name, field in FIELDS.items():
            for value in (0, 7, None):
                error = getattr(errors, name)(value)
                self.assertEqual(vars(error), {field: value}, name)

    def test_number_may_be_any_value(self):
        for value in (None, True, "x", (1, 2), [3], {"a": 1}, HUGE):
            self.assertIs(errors.BadNumber(value).n, value)

    def test_messages_can_be_shown_whatever_the_value(self):
        self.assertNotEqual(str(errors.BadNumber(HUGE)), "")
        self.assertIn("3", str(errors.BadFigures(3)))

    def test_without_fields(self):
        for name in WITHOUT_FIELDS:
            error = getattr(errors, name)("why")
            self.assertEqual(vars(error), {}, name)


if __name__ == "__main__":
    unittest.main()
