"""Point 12, and what point 16 says of chains."""

import unittest

from resttricks.chains import chain_fails, chain_tells, chained
from resttricks.errors import BadDivisor, BadTricks, TooWide
from resttricks.judging import factor, fails, tells
from resttricks.tricks import Trick
from tests.wrong import (
    GREATEST, NO_ROWS, WRONG_NUMBERS, WRONG_SMALL_DIVISORS, WRONG_TRICKS, Case)

ONE = Trick(10, 1, -2)
TWO = [Trick(10, 1, -2), Trick(10, 1, 1)]
# The greatest product of blocks that may be, and the least one above it that four blocks can have.
WIDE = [Trick(10, 2, 3), Trick(3, 1, -2)]
TOO_WIDE = [Trick(2, 2, 3), Trick(7, 1, -2), Trick(11, 1, 0)]
OF_ONE_CHAIN = (chain_tells, chain_fails)
# Bases and takes of chains of 1 to 4 tricks, with products of blocks up to 300.
PARTS = (
    ((2, 1),), ((10, 1),), ((16, 2),), ((2, 1), (2, 1)), ((3, 1), (4, 1)), ((10, 1), (10, 1)), ((16, 1), (16, 1)),
    ((10, 2), (3, 1)), ((3, 1), (10, 2)), ((2, 1), (3, 1), (2, 2)), ((7, 1), (7, 1), (6, 1)),
    ((2, 1), (2, 1), (2, 1), (2, 1)), ((2, 1), (3, 1), (5, 1), (10, 1)), ((2, 2), (2, 2), (4, 1), (4, 1)))
SOME_TIMES = ((1, 1, 1, 1), (-2, 1, 4, -5), (0, 3, 0, 2), (67, -1, 100, -100), (5, 5, -1, -1), (-1, -1, -1, -1))
SOME_NUMBERS = tuple(range(-60, 61)) + (371, -371, 12345, GREATEST, GREATEST - 1, -GREATEST, 1 - GREATEST)


def some_chains():
    """Chains of 1 to 4 tricks, as lists and as tuples, that tell rests, or multiples, or nothing."""
    for parts in PARTS:
        for times in SOME_TIMES:
            chain = [Trick(base, take, times[index]) for index, (base, take) in enumerate(parts)]
            yield chain
            yield tuple(reversed(chain))


def made(chain, n):
    """What a chain makes of any integer."""
    for trick in chain:
        block = trick.base ** trick.take
        n = n // block + trick.times * (n % block)
    return n


def product_of(numbers):
    """The product of some integers."""
    found = 1
    for n in numbers:
        found *= n
    return found


def by_definition(chain, d):
    """(chain_tells, chain_fails), looked up number by number, for a stretch behind which all rests come again."""
    width = product_of(trick.base ** trick.take for trick in chain)
    unlike, one_alone = None, None
    for n in range(width * d):
        rest, later = n % d, made(chain, n) % d
        if rest != later and unlike is None:
            unlike = n
        if (rest == 0) != (later == 0):
            one_alone = n
            break
    return ("rest" if unlike is None else "multiples" if one_alone is None else "nothing", one_alone)


class PrintedExamples(Case):

    def test_all(self):
        self.assertEqual(
            [chained(TWO, 371), chain_tells(TWO, 3), chain_tells(TWO, 7), chain_fails(TWO, 7),
             chain_tells(TWO[:1], 7)],
            [8, "rest", "nothing", 1, "multiples"])


class Chained(Case):

    def test_one_behind_the_other(self):
        for chain in some_chains():
            for n in SOME_NUMBERS:
                self.assertEqual(chained(chain, n), made(chain, n))

    def test_order(self):
        self.assertEqual([chained([ONE, Trick(2, 1, 5)], 15), chained([Trick(2, 1, 5), ONE], 15)], [-5 + 5, 1 - 4])

    def test_one_and_four_as_list_and_as_tuple(self):
        for kind in (list, tuple):
            self.assertEqual(chained(kind([ONE]), 371), 35)
            self.assertEqual(chained(kind([ONE] * 2), 371), -7)
            self.assertEqual(chained(kind([ONE] * 4), 371), -7)

    def test_wider_than_what_can_be_told(self):
        for times in (-100, 0, 100):
            chain = [Trick(16, 2, times)] * 4
            for n in SOME_NUMBERS:
                self.assertEqual(chained(chain, n), made(chain, n))

    def test_edges(self):
        self.assertEqual([chained([Trick(10, 1, 3)] * 4, n) for n in (GREATEST, -GREATEST)], [10 ** 36, -10 ** 36])
        self.assertEqual([chained([Trick(2, 1, 100)] * 4, n) for n in (-1, 0, 1)], [87, 0, 112])

    def test_no_chain_before_no_number(self):
        for n in (371, None, GREATEST + 1):
            for tricks in NO_ROWS:
                self.assertIsNone(self.refused(BadTricks, chained, tricks, n).index)
            self.assertEqual(self.refused(BadTricks, chained, [None], n).index, 0)

    def test_no_number(self):
        for n in WRONG_NUMBERS:
            for chain in ([ONE], (ONE,) * 4, TOO_WIDE):
                self.refused_number(n, chained, chain, n)


class OneDivisor(Case):

    def test_by_definition(self):
        words = {}
        for chain in some_chains():
            for d in (1, 2, 3, 4, 5, 6, 7, 9, 11, 13, 17, 19, 29, 30):
                found = (chain_tells(chain, d), chain_fails(chain, d))
                self.assertEqual(found, by_definition(chain, d), ([vars(trick) for trick in chain], d))
                words[found[0]] = words.get(found[0], 0) + 1
        self.assertTrue(all(words[word] > 20 for word in ("rest", "multiples", "nothing")), words)

    def test_all_numbers_not_only_those_from_nought_on(self):
        for chain in some_chains():
            for d in (3, 7, 11):
                word = chain_tells(chain, d)
                for n in SOME_NUMBERS:
                    if word == "rest":
                        self.assertEqual(chained(chain, n) % d, n % d)
                    if word == "multiples":
                        self.assertEqual(chained(chain, n) % d == 0, n % d == 0)

    def test_chain_of_one_is_its_trick(self):
        for base in range(2, 17):
            for take in (1, 2):
                for times in (-100, -51, -2, -1, 0, 1, 5, 67, 100):
                    trick = Trick(base, take, times)
                    for d in (1, 2, 3, 7, 11, 17, 30):
                        self.assertEqual(chain_tells([trick], d), tells(trick, d))
                        self.assertEqual(chain_fails((trick,), d), fails(trick, d))

    def test_tricks_that_tell_multiples(self):
        # By the rest by d of the block, times that tell multiples of d.
        many = 0
        for parts in PARTS:
            for d in range(1, 31):
                chain = []
                for base, take in parts:
                    fit = [times for times in range(-30, 31) if times * base ** take % d == 1 % d]
                    chain += [Trick(base, take, fit[0])] if fit else []
                if len(chain) < len(parts):
                    continue
                many += 1
                u = product_of(factor(trick, d) for trick in chain)
                self.assertIsNone(chain_fails(chain, d))
                self.assertEqual(chain_tells(chain, d), "rest" if u % d == 1 % d else "multiples")
                for n in SOME_NUMBERS:
                    self.assertEqual(chained(chain, n) % d, u * n % d)
        self.assertGreater(many, 150)

    def test_rest_though_no_trick_keeps_it(self):
        # 10 and 5 have the rests 3 and 5 by 7, and 3 * 5 that of 1.
        chain = [Trick(10, 1, 5), Trick(5, 1, 3)]
        self.assertEqual([tells(trick, 7) for trick in chain], ["multiples", "multiples"])
        self.assertEqual([chain_tells(chain, 7), chain_fails(chain, 7)], ["rest", None])

    def test_fails_far_away(self):
        self.assertEqual([chain_fails(WIDE, d) for d in (2, 3, 17)], [300, 300, 306])
        # All blocks have the rest 1 by 3; only times of the last trick can spoil what the others keep.
        self.assertEqual([chain_fails([Trick(2, 2, 1)] * 3 + [Trick(2, 2, times)], 3) for times in (1, 4, 0)],
                         [None, None, 1])

    def test_edges(self):
        for chain in ([ONE], (ONE,), [Trick(4, 1, 7)] * 4, (Trick(2, 2, -3),) * 4, WIDE):
            self.assertEqual([chain_tells(chain, 1), chain_fails(chain, 1)], ["rest", None])
        # It makes of 102 first 7, and then 0.
        self.assertEqual([chain_tells(WIDE, 30), chain_fails(WIDE, 30)], ["nothing", 102])
        self.assertEqual([chain_tells([Trick(7, 1, 13)], 30), chain_fails([Trick(7, 1, 13)], 30)], ["multiples", None])

    def test_product_of_300_and_one_greater(self):
        for chain in (WIDE, [Trick(2, 1, 1), Trick(3, 1, 1), Trick(5, 1, 1), Trick(10, 1, 1)]):
            for told in OF_ONE_CHAIN:
                told(chain, 30)
        wider = (TOO_WIDE, tuple(TOO_WIDE), [Trick(10, 2, 1), Trick(2, 2, 1)], [Trick(16, 2, 1)] * 4,
                 [Trick(2, 1, 1), Trick(3, 1, 1), Trick(5, 1, 1), Trick(11, 1, 1)])
        for chain in wider:
            for told in OF_ONE_CHAIN:
                for d in (1, 7, 30):
                    self.assertEqual(self.refused(TooWide, told, chain, d).most, 300)

    def test_no_divisor_before_too_wide(self):
        for d in WRONG_SMALL_DIVISORS:
            for chain in ([ONE], TWO, WIDE, TOO_WIDE):
                for told in OF_ONE_CHAIN:
                    self.refused(BadDivisor, told, chain, d)


class WrongChains(Case):

    def calls(self):
        """All functions, with second arguments that are right, or wrong."""
        return [(chained, 371), (chained, None), (chain_tells, 7), (chain_tells, 31), (chain_fails, 7),
                (chain_fails, None)]

    def test_no_list_or_tuple_of_so_many_things(self):
        for function, second in self.calls():
            for tricks in NO_ROWS + (ONE, {0: ONE}, [ONE] * 5, (ONE,) * 5, [None] * 5, (None,) * 5):
                self.assertIsNone(self.refused(BadTricks, function, tricks, second).index)

    def test_first_that_is_no_trick(self):
        for function, second in self.calls():
            for value in WRONG_TRICKS + (Trick,):
                for kind in (list, tuple):
                    self.assertEqual(self.refused(BadTricks, function, kind([value]), second).index, 0)
                    self.assertEqual(self.refused(BadTricks, function, kind([ONE, value, ONE, value]), second).index, 1)
                    self.assertEqual(self.refused(BadTricks, function, kind([ONE] * 3 + [value]), second).index, 3)
                    # Before TooWide.
                    wide = kind(TOO_WIDE + [value])
                    self.assertEqual(self.refused(BadTricks, function, wide, second).index, 3)


class Lists(Case):

    def test_a_list_that_was_handed_in_is_not_changed(self):
        tricks = list(TWO)
        self.assertEqual([chained(tricks, 371), chain_tells(tricks, 7), chain_fails(tricks, 7)], [8, "nothing", 1])
        self.assertEqual(tricks, TWO)

    def test_and_may_be_changed_later(self):
        tricks = list(TWO)
        found = [chained(tricks, 371), chain_tells(tricks, 7), chain_fails(tricks, 7)]
        tricks.pop()
        self.assertEqual([chained(tricks, 371), chain_tells(tricks, 7), chain_fails(tricks, 7)],
                         [35, "multiples", None])
        tricks.append(TWO[1])
        self.assertEqual([chained(tricks, 371), chain_tells(tricks, 7), chain_fails(tricks, 7)], found)

    def test_the_same_trick_several_times(self):
        self.assertEqual(chain_tells([ONE, ONE], 7), "multiples")
        # 4 * 4 * 4 has the rest 1 by 7.
        self.assertEqual([chain_tells([Trick(2, 1, 4)] * many, 7) for many in (1, 2, 3, 4)],
                         ["multiples", "multiples", "rest", "multiples"])


if __name__ == "__main__":
    unittest.main()
