"""What several tests share: wrong values of all kinds, and a look at the error that a call raises."""

import unittest

from resttricks.errors import BadNumber

GREATEST = 10 ** 40

# No integers at all; True and False are none here.
NO_INTEGERS = (None, True, False, "", "10", "x", (), (10,), [], [10], [[]], {}, {10: 1}, {"a": [None]})
# An integer of so many figures that Python does not write it out.
HUGE = 10 ** 6000

WRONG_BASES = NO_INTEGERS + (1, 0, 17, -2, -10, HUGE, -HUGE)
WRONG_TAKES = NO_INTEGERS + (0, 3, -1, HUGE)
WRONG_TIMES = NO_INTEGERS + (101, -101, HUGE, -HUGE)
WRONG_NUMBERS = NO_INTEGERS + (GREATEST + 1, -GREATEST - 1, HUGE, -HUGE)
WRONG_DIVISORS = NO_INTEGERS + (0, 101, -1, HUGE, -HUGE)
WRONG_SMALL_DIVISORS = NO_INTEGERS + (0, 31, 100, -1, HUGE, -HUGE)
WRONG_TRICKS = NO_INTEGERS + (10, HUGE, (10, 1, -2), [10, 1, -2], "base 10 take 1 times -2")
NO_TUPLES = (None, True, False, 0, 1, HUGE, "", "10", [], [1], [0, 1], {}, {0: 1}, {"a": [None]})
# Nothing that is a list or tuple of one thing at least.
NO_ROWS = (None, True, False, 0, 1, HUGE, "", "10", {}, {0: 1}, {"a": [None]}, (), [])


class Case(unittest.TestCase):
    """A test case that can look at errors."""

    def refused(self, error, function, *arguments):
        """The error that the call raises, which is of this very class."""
        with self.assertRaises(error) as caught:
            function(*arguments)
        self.assertIs(caught.exception.__class__, error)
        return caught.exception

    def refused_number(self, value, function, *arguments):
        """The call raises BadNumber with this value, True and 1 being unlike."""
        error = self.refused(BadNumber, function, *arguments)
        self.assertIs(error.n.__class__, value.__class__)
        self.assertEqual(error.n, value)
