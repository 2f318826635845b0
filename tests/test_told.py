"""Point 13: tricks that are told by what they make."""

import unittest

from resttricks.errors import BadPairs
from resttricks.told import fitting
from resttricks.tricks import Trick, done
from tests.wrong import GREATEST, HUGE, NO_ROWS, NO_TUPLES, WRONG_NUMBERS, Case

ALL = [(base, take, times) for base in range(2, 17) for take in (1, 2) for times in range(-100, 101)]
SOME_TRICKS = [Trick(base, take, times) for base, take in ((2, 1), (3, 2), (10, 1), (10, 2), (16, 1), (16, 2))
               for times in (-100, -2, 0, 1, 100)]
SOME_NUMBERS = (-GREATEST, 1 - GREATEST, -371, -17, -1, 0, 1, 2, 15, 16, 255, 371, GREATEST - 1, GREATEST)
PAIR = (371, 35)


def by_definition(pairs):
    """The fitting (base, take, times), all of them looked up."""
    return [(base, take, times) for base, take, times in ALL
            if all(n // base ** take + times * (n % base ** take) == later for n, later in pairs)]


class PrintedExamples(Case):

    def test_all(self):
        self.assertEqual(
            [fitting([(371, 35), (49, -14)]), fitting([(1000, 101), (17, 9)]), len(fitting([(371, 35)]))],
            [[(10, 1, -2)], [], 15])


class Fitting(Case):

    def test_one_pair(self):
        for trick in SOME_TRICKS:
            for n in SOME_NUMBERS:
                pairs = [(n, done(trick, n))]
                found = fitting(pairs)
                self.assertIs(found.__class__, list)
                self.assertEqual({told.__class__ for told in found}, {tuple})
                self.assertEqual(found, by_definition(pairs))
                self.assertIn((trick.base, trick.take, trick.times), found)

    def test_several_pairs(self):
        for trick in SOME_TRICKS:
            for many in range(2, 11):
                pairs = tuple((n, done(trick, n)) for n in SOME_NUMBERS[many % 4:many % 4 + many])
                found = fitting(pairs)
                self.assertEqual(found, by_definition(pairs))
                self.assertIn((trick.base, trick.take, trick.times), found)

    def test_any_pairs(self):
        for pairs in ([(5, 5)], [(5, 5), (7, 7)], [(0, 5)], [(100, 10), (16, 1)], [(2, 1), (3, 1)], [(-1, -1)],
                      [(-1, 8)], [(0, 0), (-1, 98)], [(1, 7), (-16, -1)], [(255, 255), (256, 1)]):
            self.assertEqual(fitting(pairs), by_definition(pairs))

    def test_many_that_fit(self):
        self.assertEqual(fitting([(0, 0)]), ALL)
        self.assertEqual(fitting([(0, 0)] * 10), ALL)
        # 1 is a last figure in all bases, and becomes times.
        for times in (-100, -1, 0, 1, 100):
            self.assertEqual(fitting([(1, times)]), [(base, take, times) for base in range(2, 17) for take in (1, 2)])

    def test_none_that_fits(self):
        for pairs in ([(0, 1)], [(0, -1)], [(1, 101)], [(1, -101)], [(0, GREATEST)], [(GREATEST, GREATEST)],
                      [(1, 1), (1, 2)], [(0, 0)] * 9 + [(0, 1)], [(0, 1)] + [(0, 0)] * 9, [(-GREATEST, -GREATEST)]):
            self.assertEqual(fitting(pairs), [])

    def test_greatest_numbers(self):
        self.assertEqual(fitting([(GREATEST, 10 ** 39), (9, 0)]), [(10, 1, 0)])
        self.assertEqual(fitting([(GREATEST, 10 ** 39), (9, 27)]), [(10, 1, 3)])
        self.assertEqual(fitting([(-GREATEST, -10 ** 38), (-1, 98)]), [(10, 2, 1)])
        self.assertEqual(len(fitting([(GREATEST, 10 ** 39)])), 201)
        self.assertEqual(len(fitting([(GREATEST, GREATEST // 2)])), 201)

    def test_below_nought(self):
        self.assertEqual(fitting([(-1, 8), (10, 1)]), [(10, 1, 1)])
        self.assertEqual(fitting([(-7, -7), (35, -7)]), by_definition([(-7, -7), (35, -7)]))
        self.assertIn((10, 1, -2), fitting([(-7, -7), (35, -7)]))

    def test_both_takes(self):
        # 16 ** 1 and 4 ** 2 are the same block.
        self.assertEqual(fitting([(16, 1), (100, 46), (15, 150)]), [(4, 2, 10), (16, 1, 10)])

    def test_lists_and_tuples(self):
        self.assertEqual(fitting([PAIR]), fitting((PAIR,)))
        self.assertEqual(fitting([PAIR] * 10), fitting((PAIR,) * 10))

    def test_a_new_list_each_time(self):
        pairs = [(371, 35), (49, -14)]
        fitting(pairs).clear()
        fitting([(0, 0)]).clear()
        self.assertEqual(fitting(pairs), [(10, 1, -2)])
        self.assertEqual(fitting([(0, 0)]), ALL)

    def test_a_list_that_was_handed_in_is_not_changed_and_may_be_later(self):
        pairs = [(371, 35), (49, -14)]
        found = fitting(pairs)
        self.assertEqual(pairs, [(371, 35), (49, -14)])
        pairs.append((0, 1))
        self.assertEqual([found, fitting(pairs)], [[(10, 1, -2)], []])


class WrongPairs(Case):

    def test_no_list_or_tuple_of_so_many_things(self):
        for pairs in NO_ROWS + ({0: PAIR}, [PAIR] * 11, (PAIR,) * 11, [None] * 11, (None,) * 11):
            self.assertIsNone(self.refused(BadPairs, fitting, pairs).index)

    def test_first_that_is_no_pair(self):
        for value in NO_TUPLES + ([371, 35], (), (371,), (371, 35, 1), (PAIR, PAIR), (PAIR,), "ab", {371: 35}):
            for kind in (list, tuple):
                self.assertEqual(self.refused(BadPairs, fitting, kind([value])).index, 0)
                self.assertEqual(self.refused(BadPairs, fitting, kind([PAIR, PAIR, value, PAIR, value])).index, 2)
                self.assertEqual(self.refused(BadPairs, fitting, kind([PAIR] * 9 + [value])).index, 9)

    def test_a_pair_itself_is_a_tuple_of_two_things_that_are_no_pairs(self):
        self.assertEqual(self.refused(BadPairs, fitting, PAIR).index, 0)

    def test_no_numbers(self):
        for value in WRONG_NUMBERS:
            for pair in ((value, 35), (371, value), (value, value)):
                self.assertEqual(self.refused(BadPairs, fitting, [pair]).index, 0)
                self.assertEqual(self.refused(BadPairs, fitting, [PAIR, (0, 0), pair, (HUGE, 1)]).index, 2)

    def test_wrong_behind_pairs_that_no_trick_fits(self):
        self.assertEqual(self.refused(BadPairs, fitting, [(0, 1), (0, True)]).index, 1)


if __name__ == "__main__":
    unittest.main()
