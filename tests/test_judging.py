"""Points 4 and 5, and what point 16 says of them."""

import unittest

from resttricks.errors import BadBase, BadDivisor, BadTake, BadTrick
from resttricks.judging import divisors, factor, fails, multipliers, rest_fails, tells
from resttricks.tricks import Trick, done
from tests.wrong import (WRONG_BASES, WRONG_DIVISORS, WRONG_NUMBERS, WRONG_TAKES, WRONG_TRICKS, Case)

WRONG_MOST = WRONG_NUMBERS + (0, -1, 101)
OF_ONE_TRICK = (tells, rest_fails, fails, factor)
PARTS = [(base, 1) for base in (2, 3, 7, 10, 16)] + [(2, 2), (3, 2), (10, 2), (16, 2)]
SOME_TIMES = (-100, -51, -10, -2, -1, 0, 1, 2, 5, 10, 67, 100)
SOME_DIVISORS = (1, 2, 3, 4, 5, 6, 7, 9, 11, 15, 17, 19, 21, 51, 99, 100)


def by_definition(trick, d):
    """(tells, rest_fails, fails, factor), looked up number by number.

    What the trick makes grows by d wherever n grows by block * d, so that one such stretch shows all rests.
    """
    block = trick.base ** trick.take
    made = [n // block + trick.times * (n % block) for n in range(block * d)]
    unlike = [n for n in range(block * d) if (made[n] - n) % d != 0]
    one_alone = [n for n in range(block * d) if (made[n] % d == 0) != (n % d == 0)]
    word = "nothing" if one_alone else "multiples" if unlike else "rest"
    # The look at 1 only spares the longer one.
    factors = [u for u in range(d) if made[1] % d == u and all((u * n - made[n]) % d == 0 for n in range(block * d))]
    return (word, min(unlike, default=None), min(one_alone, default=None), min(factors, default=None))


class PrintedExamples(Case):

    def test_first(self):
        self.assertEqual(
            [tells(Trick(10, 1, -2), 7), tells(Trick(10, 1, 1), 9), tells(Trick(10, 1, 1), 11),
             fails(Trick(10, 1, 1), 11), rest_fails(Trick(10, 1, 1), 11)],
            ["multiples", "rest", "nothing", 11, 10])

    def test_second(self):
        self.assertEqual(
            [factor(Trick(10, 1, -2), 7), factor(Trick(10, 1, 1), 11), multipliers(10, 1, 7), multipliers(10, 1, 4),
             divisors(Trick(10, 1, -2), 30)],
            [5, None, [5], [], [1, 3, 7, 21]])


class OneDivisor(Case):

    def test_by_definition(self):
        for base, take in PARTS:
            for times in SOME_TIMES:
                trick = Trick(base, take, times)
                for d in SOME_DIVISORS:
                    found = (tells(trick, d), rest_fails(trick, d), fails(trick, d), factor(trick, d))
                    self.assertEqual(found, by_definition(trick, d), (base, take, times, d))

    def test_divisor_one(self):
        for base in range(2, 17):
            for take in (1, 2):
                for times in (-100, 0, 1, 100):
                    trick = Trick(base, take, times)
                    self.assertEqual([told(trick, 1) for told in OF_ONE_TRICK], ["rest", None, None, 0])

    def test_divisor_100(self):
        self.assertEqual([told(Trick(3, 2, -11), 100) for told in OF_ONE_TRICK], ["multiples", 1, None, 89])
        self.assertEqual([told(Trick(10, 2, 100), 100) for told in OF_ONE_TRICK], ["nothing", 1, 1, None])
        self.assertEqual([told(Trick(10, 1, 1), 100) for told in OF_ONE_TRICK], ["nothing", 10, 100, None])

    def test_fails_far_away(self):
        self.assertEqual(fails(Trick(10, 2, 1), 97), 194)
        self.assertEqual(rest_fails(Trick(16, 2, 1), 99), 256)
        self.assertEqual(fails(Trick(16, 2, 1), 100), 300)

    def test_what_keeps_the_rest_tells_multiples(self):
        for base, take in PARTS:
            for times in SOME_TIMES:
                for d in SOME_DIVISORS:
                    if rest_fails(Trick(base, take, times), d) is None:
                        self.assertIsNone(fails(Trick(base, take, times), d))

    def test_multiples_just_if_times_block_has_the_rest_of_one(self):
        for base in range(2, 17):
            for take in (1, 2):
                for times in range(-100, 101, 3):
                    trick = Trick(base, take, times)
                    for d in range(1, 101):
                        both = (times * base ** take) % d == 1 % d
                        self.assertEqual(tells(trick, d) != "nothing", both)
                        self.assertEqual(factor(trick, d), times % d if both else None)

    def test_factor_holds_below_nought(self):
        for times, d in ((-2, 7), (5, 49), (-1, 11), (4, 39)):
            trick = Trick(10, 1, times)
            u = factor(trick, d)
            for n in list(range(-500, 500)) + [-10 ** 40, 10 ** 40]:
                self.assertEqual(done(trick, n) % d, u * n % d)

    def test_equal_calls_give_equal_results(self):
        for told in OF_ONE_TRICK:
            self.assertEqual(told(Trick(10, 1, -2), 7), told(Trick(10, 1, -2), 7))

    def test_no_trick(self):
        for told in OF_ONE_TRICK:
            for trick in WRONG_TRICKS:
                for d in (7, 0, None, 101):
                    self.refused(BadTrick, told, trick, d)

    def test_no_divisor(self):
        for told in OF_ONE_TRICK:
            for d in WRONG_DIVISORS:
                self.refused(BadDivisor, told, Trick(10, 1, -2), d)


class Multipliers(Case):

    def test_by_definition(self):
        for base, take in PARTS:
            block = base ** take
            for d in SOME_DIVISORS:
                found = multipliers(base, take, d)
                self.assertIs(found.__class__, list)
                stretch = range(block * d)
                self.assertEqual(found, [
                    times for times in range(d)
                    if all((n % d == 0) == ((n // block + times * (n % block)) % d == 0) for n in stretch)])

    def test_edges(self):
        self.assertEqual([multipliers(base, take, 1) for base in range(2, 17) for take in (1, 2)], [[0]] * 30)
        self.assertEqual(multipliers(2, 1, 100), [])
        self.assertEqual(multipliers(3, 1, 100), [67])
        self.assertEqual(multipliers(3, 2, 100), [89])
        self.assertEqual(multipliers(16, 1, 15), [1])

    def test_a_new_list_each_time(self):
        multipliers(10, 1, 7).append(6)
        self.assertEqual(multipliers(10, 1, 7), [5])

    def test_no_base(self):
        for base in WRONG_BASES:
            self.refused(BadBase, multipliers, base, 1, 7)
            self.refused(BadBase, multipliers, base, 3, 0)
            self.refused(BadBase, multipliers, base, None, 7)

    def test_no_take(self):
        for take in WRONG_TAKES:
            for d in (7, 0, None):
                self.refused(BadTake, multipliers, 10, take, d)

    def test_no_divisor(self):
        for d in WRONG_DIVISORS:
            self.refused(BadDivisor, multipliers, 10, 1, d)


class Divisors(Case):

    def test_all_that_do_not_fail(self):
        for base, take in PARTS:
            for times in SOME_TIMES:
                trick = Trick(base, take, times)
                found = divisors(trick, 40)
                self.assertIs(found.__class__, list)
                self.assertEqual(found, [d for d in range(1, 41) if fails(trick, d) is None])

    def test_edges(self):
        for trick in (Trick(2, 1, -100), Trick(10, 1, 0), Trick(16, 2, 100)):
            self.assertEqual(divisors(trick, 1), [1])
        self.assertEqual(divisors(Trick(10, 1, 0), 100), [1])
        self.assertEqual(divisors(Trick(10, 1, 10), 100), [1, 3, 9, 11, 33, 99])
        self.assertEqual(divisors(Trick(10, 1, 10), 98), [1, 3, 9, 11, 33])
        self.assertEqual(divisors(Trick(3, 1, -33), 100), [1, 2, 4, 5, 10, 20, 25, 50, 100])

    def test_a_new_list_each_time(self):
        divisors(Trick(10, 1, -2), 30).clear()
        self.assertEqual(divisors(Trick(10, 1, -2), 30), [1, 3, 7, 21])

    def test_no_trick(self):
        for trick in WRONG_TRICKS:
            for most in (30, 0, None, 101):
                self.refused(BadTrick, divisors, trick, most)

    def test_no_number(self):
        for most in WRONG_MOST:
            self.refused_number(most, divisors, Trick(10, 1, -2), most)


if __name__ == "__main__":
    unittest.main()
