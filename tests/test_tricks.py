"""Point 3: tricks, and what they make of numbers."""

import unittest

from resttricks.errors import BadBase, BadTake, BadTimes, BadTrick
from resttricks.tricks import Trick, ahead, done, trail
from tests.wrong import (GREATEST, WRONG_BASES, WRONG_NUMBERS, WRONG_TAKES, WRONG_TIMES, WRONG_TRICKS, Case)

WRONG_ROUNDS = WRONG_NUMBERS + (-1, 201, -200)
SOME_TIMES = (-100, -99, -10, -2, -1, 0, 1, 2, 7, 99, 100)
SOME_NUMBERS = tuple(range(-300, 301)) + (GREATEST, -GREATEST, GREATEST - 1, 1 - GREATEST, 123456789 ** 4)


def some_tricks():
    """Tricks of all bases, of both takes, and with times at the edges and near to 0."""
    return [Trick(base, take, times) for base in range(2, 17) for take in (1, 2) for times in SOME_TIMES]


def told_by_figures(n, base, take, times):
    """What such a trick makes of a number from 0 on, by its figures."""
    told = []
    while n > 0:
        told.append(n % base)
        n //= base
    trimmed, rest = told[take:], told[:take]
    return (sum(figure * base ** place for place, figure in enumerate(trimmed))
            + times * sum(figure * base ** place for place, figure in enumerate(rest)))


class Tricks(Case):

    def test_properties(self):
        for base in range(2, 17):
            for take in (1, 2):
                for times in (-100, -1, 0, 1, 100):
                    trick = Trick(base, take, times)
                    self.assertEqual((trick.base, trick.take, trick.times), (base, take, times))

    def test_properties_cannot_be_assigned(self):
        trick = Trick(10, 1, -2)
        for name in ("base", "take", "times"):
            self.assertIs(Trick.__dict__[name].__class__, property)
            with self.assertRaises(AttributeError):
                setattr(trick, name, 2)

    def test_equal(self):
        self.assertTrue(Trick(10, 1, -2) == Trick(10, 1, -2))
        self.assertFalse(Trick(10, 1, -2) != Trick(10, 1, -2))
        self.assertIn("__eq__", Trick.__dict__)

    def test_unequal_if_one_property_is(self):
        for other in (Trick(9, 1, -2), Trick(10, 2, -2), Trick(10, 1, 2)):
            self.assertFalse(Trick(10, 1, -2) == other)
            self.assertTrue(Trick(10, 1, -2) != other)

    def test_unequal_to_other_kinds(self):
        for other in WRONG_TRICKS + (object(), BadBase, 0):
            self.assertFalse(Trick(10, 1, -2) == other)
            self.assertFalse(other == Trick(10, 1, -2))
            self.assertTrue(Trick(10, 1, -2) != other)


class WrongTricks(Case):

    def test_no_base(self):
        for base in WRONG_BASES:
            self.refused(BadBase, Trick, base, 1, 1)

    def test_no_take(self):
        for take in WRONG_TAKES:
            self.refused(BadTake, Trick, 10, take, 1)

    def test_no_times(self):
        for times in WRONG_TIMES:
            self.refused(BadTimes, Trick, 10, 1, times)

    def test_first_named_first(self):
        for base in WRONG_BASES:
            for take in WRONG_TAKES:
                self.refused(BadBase, Trick, base, take, None)
        for take in WRONG_TAKES:
            for times in WRONG_TIMES:
                self.refused(BadTake, Trick, 10, take, times)


class Done(Case):

    def test_printed_examples(self):
        trick = Trick(10, 1, -2)
        self.assertEqual(
            [done(trick, 371), trail(trick, 371, 2), done(trick, -7), ahead(trick, 35)[:3], done(Trick(10, 2, 4), 371)],
            [35, [371, 35, -7], -7, [350, 371, 392], 287])

    def test_from_nought_on_by_figures(self):
        for trick in some_tricks():
            for n in (0, 1, 15, 16, 99, 100, 255, 256, 371, GREATEST, GREATEST - 1, 123456789 ** 4):
                self.assertEqual(done(trick, n), told_by_figures(n, trick.base, trick.take, trick.times))

    def test_all_sizes_by_the_definition(self):
        for trick in some_tricks():
            block = trick.base ** trick.take
            for n in SOME_NUMBERS:
                made = done(trick, n)
                # The one rest from 0 to block - 1, also below 0.
                rests = [rest for rest in range(block) if (n - rest) % block == 0] if abs(n) < 5 else [n % block]
                self.assertEqual(len(rests), 1)
                self.assertEqual((made - trick.times * rests[0]) * block + rests[0], n)

    def test_below_nought(self):
        self.assertEqual(done(Trick(10, 1, 0), -1), -1)
        self.assertEqual(done(Trick(10, 1, 1), -1), 8)
        self.assertEqual(done(Trick(2, 1, 100), -1), 99)
        self.assertEqual(done(Trick(16, 2, -100), -1), -25501)
        self.assertEqual(done(Trick(10, 1, 3), -GREATEST), -10 ** 39)
        self.assertEqual(done(Trick(10, 1, 3), 1 - GREATEST), 3 - 10 ** 39)

    def test_blocks_put_further(self):
        for trick in some_tricks():
            block = trick.base ** trick.take
            for n in (-371, -1, 0, 5, 371):
                for k in (-9, -1, 0, 1, 10 ** 20):
                    self.assertEqual(done(trick, n + block * k), done(trick, n) + k)

    def test_no_trick(self):
        for trick in WRONG_TRICKS:
            for n in (371, None, GREATEST + 1):
                self.refused(BadTrick, done, trick, n)

    def test_no_number(self):
        for n in WRONG_NUMBERS:
            self.refused_number(n, done, Trick(10, 1, -2), n)


class Trail(Case):

    def test_each_is_made_of_the_one_before(self):
        for trick in some_tricks():
            for n in (-371, -1, 0, 1, 371, 10 ** 15):
                found = trail(trick, n, 12)
                self.assertIs(found.__class__, list)
                self.assertEqual(len(found), 13)
                self.assertEqual(found[0], n)
                for before, behind in zip(found, found[1:]):
                    self.assertEqual(behind, done(trick, before))

    def test_edges(self):
        for n in (-GREATEST, -1, 0, 1, GREATEST):
            self.assertEqual(trail(Trick(10, 1, -2), n, 0), [n])
            self.assertEqual(trail(Trick(10, 1, -2), n, 1), [n, done(Trick(10, 1, -2), n)])
            self.assertEqual(len(trail(Trick(10, 1, -2), n, 200)), 201)
        self.assertEqual(trail(Trick(2, 1, 0), 0, 200), [0] * 201)
        self.assertEqual(trail(Trick(10, 1, 1), GREATEST, 200)[38:42], [100, 10, 1, 1])

    def test_a_new_list_each_time(self):
        trick = Trick(10, 1, -2)
        trail(trick, 371, 2).append(5)
        self.assertEqual(trail(trick, 371, 2), [371, 35, -7])

    def test_no_trick(self):
        for trick in WRONG_TRICKS:
            self.refused(BadTrick, trail, trick, 371, 2)
            self.refused(BadTrick, trail, trick, None, None)

    def test_no_number(self):
        for n in WRONG_NUMBERS:
            for rounds in (0, 200, None, 201, "2"):
                self.refused_number(n, trail, Trick(10, 1, -2), n, rounds)

    def test_no_rounds(self):
        for rounds in WRONG_ROUNDS:
            self.refused_number(rounds, trail, Trick(10, 1, -2), 371, rounds)


class Ahead(Case):

    def test_all_of_them(self):
        for base, take in ((2, 1), (3, 1), (10, 1), (2, 2), (4, 2)):
            for times in (-9, -2, -1, 0, 1, 2, 9):
                trick = Trick(base, take, times)
                made = [done(trick, m) for m in range(6000)]
                for n in range(-60, 61):
                    self.assertEqual(ahead(trick, n), [m for m in range(6000) if made[m] == n])

    def test_of_all_sizes(self):
        for trick in some_tricks():
            block = trick.base ** trick.take
            for n in (-GREATEST, -30000, -371, -1, 0, 1, 371, 30000, GREATEST):
                found = ahead(trick, n)
                self.assertIs(found.__class__, list)
                self.assertEqual(found, sorted(found))
                # One for each rest that leaves a quotient from 0 on.
                self.assertEqual([m % block for m in sorted(found, key=lambda m: m % block)],
                                 [rest for rest in range(block) if n - trick.times * rest >= 0])
                for m in found:
                    self.assertEqual(m // block + trick.times * (m % block), n)

    def test_edges(self):
        self.assertEqual(ahead(Trick(2, 1, 0), -1), [])
        self.assertEqual(ahead(Trick(10, 1, 100), -GREATEST), [])
        self.assertEqual(ahead(Trick(10, 1, 0), 3), list(range(30, 40)))
        self.assertEqual(ahead(Trick(10, 1, 1), 0), [0])
        self.assertEqual(ahead(Trick(10, 1, 1), 2), [2, 11, 20])
        self.assertEqual(ahead(Trick(2, 1, 0), GREATEST), [2 * GREATEST, 2 * GREATEST + 1])
        self.assertEqual(ahead(Trick(2, 1, -100), -100), [1])
        self.assertEqual(ahead(Trick(2, 1, -100), -101), [])

    def test_a_new_list_each_time(self):
        trick = Trick(10, 1, 1)
        ahead(trick, 2).clear()
        self.assertEqual(ahead(trick, 2), [2, 11, 20])

    def test_no_trick(self):
        for trick in WRONG_TRICKS:
            for n in (371, None, GREATEST + 1):
                self.refused(BadTrick, ahead, trick, n)

    def test_no_number(self):
        for n in WRONG_NUMBERS:
            self.refused_number(n, ahead, Trick(10, 1, -2), n)


if __name__ == "__main__":
    unittest.main()
