"""Point 11."""

import unittest
from itertools import product

from resttricks.bases import number
from resttricks.checks import good_divisors, slip, swap
from resttricks.errors import BadBase, BadDivisor
from tests.wrong import WRONG_BASES, WRONG_DIVISORS, WRONG_NUMBERS, Case

WRONG_LENGTHS = WRONG_NUMBERS + (0, -1, 41, 100)
WRONG_MOST = WRONG_NUMBERS + (0, -1, 101)
SMALL = ((2, 4), (3, 3), (4, 3), (7, 2), (10, 2))
SOME_DIVISORS = (1, 2, 3, 4, 5, 6, 7, 8, 9, 11, 12, 16, 27, 49, 81, 99, 100)


def slips(base, length):
    """All (place, difference, change of the number) of a greater figure, looked up number by number."""
    found = set()
    for told in product(range(base), repeat=length):
        for place in range(length):
            at = length - 1 - place
            for figure in range(told[at] + 1, base):
                later = told[:at] + (figure,) + told[at + 1:]
                found.add((place, figure - told[at], number(later, base) - number(told, base)))
    return sorted(found)


def swaps(base, length, far):
    """All (place, difference, change of the number) of exchanges, looked up number by number."""
    found = set()
    for told in product(range(base), repeat=length):
        for place in range(length - far):
            at, ahead = length - 1 - place, length - 1 - place - far
            if told[at] != told[ahead]:
                later = list(told)
                later[at], later[ahead] = told[ahead], told[at]
                found.add((place, abs(told[at] - told[ahead]), number(tuple(later), base) - number(told, base)))
    return sorted(found)


def least(changes, d):
    """The least (place, difference) of a change that is a multiple of d."""
    return min([(place, difference) for place, difference, change in changes if change % d == 0], default=None)


def by_powers(base, d, places, change):
    """The least (place, difference), by the powers of the base."""
    return min([(place, difference) for place in range(places) for difference in range(1, base)
                if difference * change * base ** place % d == 0], default=None)


class PrintedExamples(Case):

    def test_all(self):
        self.assertEqual(
            [slip(10, 9, 5), slip(10, 11, 5), slip(10, 7, 3), swap(10, 11, 5, 1), swap(10, 9, 5, 1),
             swap(10, 11, 5, 2), good_divisors(10, 5, 20)],
            [(0, 9), None, (0, 7), None, (0, 1), (0, 1), [11, 13, 17, 19]])


class Slip(Case):

    def test_by_definition(self):
        for base, length in SMALL:
            changes = slips(base, length)
            for d in range(1, 101):
                self.assertEqual(slip(base, d, length), least(changes, d), (base, d, length))

    def test_all_lengths(self):
        for base in range(2, 17):
            for d in SOME_DIVISORS:
                for length in (1, 2, 3, 7, 8, 39, 40):
                    found = slip(base, d, length)
                    self.assertIn(found.__class__, (tuple, None.__class__))
                    self.assertEqual(found, by_powers(base, d, length, 1), (base, d, length))

    def test_edges(self):
        self.assertEqual([slip(2, 1, 1), slip(16, 1, 40)], [(0, 1), (0, 1)])
        self.assertEqual([slip(2, 2, 1), slip(2, 2, 2)], [None, (1, 1)])
        self.assertEqual([slip(2, 64, 6), slip(2, 64, 7), slip(2, 64, 40)], [None, (6, 1), (6, 1)])
        self.assertEqual([slip(10, 100, 1), slip(10, 100, 2), slip(10, 100, 40)], [None, None, (2, 1)])
        self.assertEqual([slip(10, 10, 1), slip(10, 10, 2), slip(16, 15, 1), slip(16, 16, 1)],
                         [None, (1, 1), (0, 15), None])
        self.assertEqual([slip(10, 20, 40), slip(10, 50, 40)], [(1, 2), (1, 5)])
        self.assertEqual([slip(16, 97, 40), slip(2, 3, 40)], [None, None])

    def test_no_base(self):
        for base in WRONG_BASES:
            self.refused(BadBase, slip, base, 7, 5)
            self.refused(BadBase, slip, base, 0, 0)

    def test_no_divisor(self):
        for d in WRONG_DIVISORS:
            for length in (5, 0, None):
                self.refused(BadDivisor, slip, 10, d, length)

    def test_no_length(self):
        for length in WRONG_LENGTHS:
            self.refused_number(length, slip, 10, 7, length)


class Swap(Case):

    def test_by_definition(self):
        for base, length in SMALL + ((2, 6), (3, 4)):
            for far in range(1, length + 2):
                changes = swaps(base, length, far)
                for d in range(1, 101):
                    self.assertEqual(swap(base, d, length, far), least(changes, d), (base, d, length, far))

    def test_all_lengths(self):
        for base in range(2, 17):
            for d in SOME_DIVISORS:
                for length in (1, 2, 3, 8, 40):
                    for far in (1, 2, 3, 7, 8, 39, 40):
                        self.assertEqual(swap(base, d, length, far),
                                         by_powers(base, d, length - far, base ** far - 1), (base, d, length, far))

    def test_edges(self):
        self.assertEqual([swap(10, 9, 1, 1), swap(10, 9, 2, 1), swap(10, 9, 2, 2)], [None, (0, 1), None])
        self.assertEqual([swap(10, 1, 40, far) for far in (1, 38, 39, 40)], [(0, 1), (0, 1), (0, 1), None])
        self.assertEqual([swap(10, 1, 1, 40), swap(2, 1, 40, 40)], [None, None])
        self.assertEqual([swap(2, 64, 7, 1), swap(2, 64, 8, 1)], [None, (6, 1)])
        self.assertEqual([swap(10, 45, 40, 1), swap(10, 45, 40, 6)], [(0, 5), (0, 5)])
        self.assertEqual([swap(10, 7, 40, 1), swap(10, 7, 40, 6), swap(10, 7, 6, 6)], [(0, 7), (0, 1), None])
        self.assertEqual([swap(10, 100, 40, 1), swap(10, 100, 3, 1), swap(10, 20, 3, 1)], [(2, 1), None, (1, 2)])
        self.assertEqual(swap(16, 97, 40, 1), None)

    def test_no_base(self):
        for base in WRONG_BASES:
            self.refused(BadBase, swap, base, 7, 5, 1)
            self.refused(BadBase, swap, base, 0, 0, 0)

    def test_no_divisor(self):
        for d in WRONG_DIVISORS:
            for length in (5, 0, None):
                self.refused(BadDivisor, swap, 10, d, length, None)

    def test_no_length(self):
        for length in WRONG_LENGTHS:
            for far in (1, 0, None, 41, "1"):
                self.refused_number(length, swap, 10, 7, length, far)

    def test_no_far(self):
        for far in WRONG_LENGTHS:
            for length in (1, 40):
                self.refused_number(far, swap, 10, 7, length, far)


class GoodDivisors(Case):

    def test_those_without_slips_and_swaps_of_neighbours(self):
        for base in range(2, 17):
            for length in (1, 2, 3, 8, 40):
                found = good_divisors(base, length, 100)
                self.assertIs(found.__class__, list)
                self.assertEqual(found, [d for d in range(1, 101)
                                         if by_powers(base, d, length, 1) is None
                                         and by_powers(base, d, length - 1, base - 1) is None])

    def test_number_by_number(self):
        for base, length in SMALL:
            changes = slips(base, length) + swaps(base, length, 1)
            self.assertEqual(good_divisors(base, length, 100), [d for d in range(1, 101) if least(changes, d) is None])

    def test_edges(self):
        self.assertEqual([good_divisors(2, 1, 1), good_divisors(16, 40, 1), good_divisors(2, 40, 2)], [[], [], []])
        self.assertEqual(good_divisors(2, 40, 3), [3])
        self.assertEqual(good_divisors(10, 1, 12), [10, 11, 12])
        self.assertEqual(good_divisors(10, 40, 11), [11])
        self.assertEqual(good_divisors(10, 40, 10), [])
        self.assertEqual(good_divisors(10, 1, 100), list(range(10, 101)))
        # 100 itself slips by a figure at place 2.
        self.assertEqual([good_divisors(10, length, 100)[-1] for length in (2, 3)], [100, 99])

    def test_a_new_list_each_time(self):
        good_divisors(10, 5, 20).clear()
        self.assertEqual(good_divisors(10, 5, 20), [11, 13, 17, 19])

    def test_no_base(self):
        for base in WRONG_BASES:
            self.refused(BadBase, good_divisors, base, 5, 20)
            self.refused(BadBase, good_divisors, base, 0, None)

    def test_no_length(self):
        for length in WRONG_LENGTHS:
            for most in (20, 0, None, 101, "1"):
                self.refused_number(length, good_divisors, 10, length, most)

    def test_no_most(self):
        for most in WRONG_MOST:
            self.refused_number(most, good_divisors, 10, 5, most)


if __name__ == "__main__":
    unittest.main()
