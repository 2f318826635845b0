"""Points 7 and 8, and what point 16 says of them."""

import unittest
from math import gcd

from resttricks.errors import BadBase, BadDivisor, BadSum, BadTake, BadWeights
from resttricks.sums import Sum, rest_weights, sum_fails, sum_rest_fails, sum_tells, total
from tests.wrong import (
    GREATEST, HUGE, NO_INTEGERS, NO_TUPLES, WRONG_BASES, WRONG_NUMBERS, WRONG_SMALL_DIVISORS, WRONG_TAKES, Case)

MOST = 10 ** 6
NO_WEIGHTS = NO_INTEGERS + (MOST + 1, -MOST - 1, HUGE, -HUGE)
NO_SUMS = NO_INTEGERS + (10, HUGE, (10, 1, (), (1,)), [10, 1, (), (1,)])
OF_ONE_SUM = (sum_tells, sum_rest_fails, sum_fails)
PARTS = [(base, take) for base in (2, 3, 4, 7, 10, 12, 16) for take in (1, 2)]
SOME_NUMBERS = (0, 1, 2, 9, 10, 15, 16, 99, 100, 255, 256, 371, 999, 123456789 ** 4, GREATEST - 1, GREATEST)


def some_sums(base, take, d):
    """Sums of which some keep the rest by d, some tell multiples of it, and some tell nothing, early or late."""
    block = base ** take
    powers = [block ** place % d for place in range(24)]
    found = [Sum(base, take, tuple(powers[:12]), tuple(powers[12:]))]
    for factor in (0, 2, -1, 5):
        found.append(Sum(base, take, (), tuple(factor * power for power in powers[:12])))
        found.append(Sum(base, take, tuple(factor * power for power in powers[:3]), (factor * powers[3],)))
    for wrong in (0, 1, 2, 3):
        late = list(powers[:12])
        late[wrong] += d // 2 + 1
        found.append(Sum(base, take, tuple(late), tuple(powers[12:])))
    return found + [Sum(base, take, (), weights) for weights in ((0,), (1,), (1, -1), (d,), (1, 1, 2), (-3, 4, 7))]


def total_by_blocks(told, n):
    """The total of a number from 0 on, of any size."""
    blocks = []
    while n > 0:
        blocks.append(n % told.base ** told.take)
        n //= told.base ** told.take
    weights = list(told.first)
    while len(weights) < len(blocks):
        weights += told.loop
    return sum(block * weight for block, weight in zip(blocks, weights))


def early(told, d, stretch):
    """The least number below stretch whose rest is not kept, and the least one of which only one is a multiple."""
    totals = [total_by_blocks(told, n) for n in range(stretch)]
    unlike = [n for n in range(stretch) if (totals[n] - n) % d != 0]
    alone = [n for n in range(stretch) if (totals[n] % d == 0) != (n % d == 0)]
    return (min(unlike, default=None), min(alone, default=None))


class PrintedExamples(Case):

    def test_first(self):
        plain = Sum(10, 1, (), (1,))
        self.assertEqual(
            [total(plain, 999), total(Sum(10, 1, (), (1, -1)), 371), sum_tells(plain, 9),
             sum_tells(Sum(10, 1, (), (2,)), 9), sum_fails(plain, 11), sum_rest_fails(plain, 11)],
            [27, -3, "rest", "multiples", 11, 10])

    def test_second(self):
        self.assertEqual(
            [rest_weights(10, 1, 7), rest_weights(10, 1, 4), sum_tells(Sum(10, 1, (1, 2), (0,)), 4),
             sum_fails(Sum(10, 1, (), (0,)), 4)],
            [((), (1, 3, 2, -1, -3, -2)), ((1, 2), (0,)), "rest", 1])


class Sums(Case):

    def test_properties(self):
        for base in range(2, 17):
            for take in (1, 2):
                for first in ((), (0,), (MOST, -MOST), (3,) * 12):
                    for loop in ((0,), (-MOST,), (MOST, 1), (-7,) * 12):
                        told = Sum(base, take, first, loop)
                        self.assertEqual((told.base, told.take, told.first, told.loop), (base, take, first, loop))

    def test_properties_cannot_be_assigned(self):
        told = Sum(10, 1, (), (1,))
        for name in ("base", "take", "first", "loop"):
            self.assertIs(Sum.__dict__[name].__class__, property)
            with self.assertRaises(AttributeError):
                setattr(told, name, (2,))

    def test_equal(self):
        self.assertTrue(Sum(10, 1, (1, 2), (3,)) == Sum(10, 1, (1, 2), (3,)))
        self.assertFalse(Sum(10, 1, (1, 2), (3,)) != Sum(10, 1, (1, 2), (3,)))
        self.assertIn("__eq__", Sum.__dict__)

    def test_unequal_if_one_property_is(self):
        told = Sum(10, 1, (1, 2), (3,))
        for other in (Sum(9, 1, (1, 2), (3,)), Sum(10, 2, (1, 2), (3,)), Sum(10, 1, (1,), (3,)),
                      Sum(10, 1, (1, 2), (3, 3)), Sum(10, 1, (1, 2, 3), (3,)), Sum(10, 1, (1, 2), (-3,))):
            self.assertFalse(told == other)
            self.assertTrue(told != other)

    def test_unequal_to_other_kinds(self):
        told = Sum(10, 1, (), (1,))
        for other in NO_SUMS + (object(), BadSum, 0):
            self.assertFalse(told == other)
            self.assertFalse(other == told)
            self.assertTrue(told != other)


class WrongSums(Case):

    def test_no_base(self):
        for base in WRONG_BASES:
            self.refused(BadBase, Sum, base, 1, (), (1,))
            self.refused(BadBase, Sum, base, None, None, None)

    def test_no_take(self):
        for take in WRONG_TAKES:
            self.refused(BadTake, Sum, 10, take, (), (1,))
            self.refused(BadTake, Sum, 10, take, [True], ())

    def test_first_no_tuple_of_so_many_things(self):
        for first in NO_TUPLES + ((1,) * 13, (None,) * 13):
            for loop in ((1,), (), None, (None,)):
                self.assertIsNone(self.refused(BadWeights, Sum, 10, 1, first, loop).index)

    def test_loop_no_tuple_of_so_many_things(self):
        for loop in NO_TUPLES + ((), (1,) * 13, (None,) * 13):
            for first in ((), (1,) * 12):
                self.assertIsNone(self.refused(BadWeights, Sum, 10, 1, first, loop).index)

    def test_no_weight_in_first(self):
        for value in NO_WEIGHTS:
            self.assertEqual(self.refused(BadWeights, Sum, 10, 1, (value,), (1,)).index, 0)
            self.assertEqual(self.refused(BadWeights, Sum, 10, 1, (0, 1, value, value), (value,)).index, 2)
            self.assertEqual(self.refused(BadWeights, Sum, 10, 1, (1,) * 11 + (value,), ()).index, 11)

    def test_no_weight_in_loop(self):
        for value in NO_WEIGHTS:
            self.assertEqual(self.refused(BadWeights, Sum, 10, 1, (), (value,)).index, 0)
            self.assertEqual(self.refused(BadWeights, Sum, 10, 1, (1, 1), (MOST, -MOST, value, value)).index, 2)
            self.assertEqual(self.refused(BadWeights, Sum, 10, 1, (1,) * 12, (1,) * 11 + (value,)).index, 11)


class Total(Case):

    def test_by_blocks(self):
        for base in range(2, 17):
            for take in (1, 2):
                for first, loop in (((), (1,)), ((), (1, -1)), ((5, 0, -7), (2, 3)), ((MOST,) * 12, (-MOST,) * 12)):
                    told = Sum(base, take, first, loop)
                    for n in SOME_NUMBERS:
                        self.assertEqual(total(told, n), total_by_blocks(told, n), (base, take, first, loop, n))

    def test_written_out(self):
        self.assertEqual(total(Sum(10, 1, (5,), (1, 0, -1)), 98765), 5 * 5 + 6 - 8 + 9)
        self.assertEqual(total(Sum(10, 2, (5,), (1, 0, -1)), 98765), 5 * 65 + 87)
        self.assertEqual(total(Sum(16, 1, (), (1,)), 255), 30)
        self.assertEqual(total(Sum(2, 2, (), (1, 10)), 27), 3 + 20 + 1)

    def test_edges(self):
        for first, loop in (((), (MOST,)), ((-MOST,) * 12, (7,) * 12)):
            for base, take in PARTS:
                self.assertEqual(total(Sum(base, take, first, loop), 0), 0)
        self.assertEqual(total(Sum(10, 1, tuple(range(1, 13)), tuple(range(13, 25))), 10 ** 36), 13)
        self.assertEqual(total(Sum(10, 1, (), tuple(range(12))), GREATEST), 4)
        self.assertEqual(total(Sum(10, 1, (), (MOST,)), GREATEST - 1), 360 * MOST)
        self.assertEqual(total(Sum(10, 1, (), (-MOST,)), GREATEST - 1), -360 * MOST)

    def test_no_sum(self):
        for told in NO_SUMS:
            for n in (371, None, -1):
                self.refused(BadSum, total, told, n)

    def test_no_number_from_nought_on(self):
        for n in WRONG_NUMBERS + (-1, -GREATEST):
            self.refused_number(n, total, Sum(10, 1, (), (1,)), n)


class OneDivisor(Case):

    def check_failure(self, told, d, fails, is_failure):
        """A failure that is told is one; so is none below it, among the first numbers and the nearest ones."""
        for n in list(range(200)) + ([] if fails is None else list(range(max(0, fails - 200), fails + 1))):
            if fails is None or n <= fails:
                self.assertEqual(is_failure(n, total_by_blocks(told, n)), n == fails, (vars(told), d, n))

    def test_by_definition(self):
        for base, take in PARTS:
            for d in (1, 2, 3, 4, 6, 7, 8, 9, 11, 16, 27, 29, 30):
                for told in some_sums(base, take, d):
                    rest_fails, fails = sum_rest_fails(told, d), sum_fails(told, d)
                    word = "rest" if rest_fails is None else "multiples" if fails is None else "nothing"
                    self.assertEqual(sum_tells(told, d), word)
                    self.check_failure(told, d, rest_fails, lambda n, made: (made - n) % d != 0)
                    self.check_failure(told, d, fails, lambda n, made: (made % d == 0) != (n % d == 0))

    def test_small_ones_throughout(self):
        for base, take, stretch in ((2, 1, 1 << 9), (3, 1, 3 ** 6), (2, 2, 1 << 10)):
            for first in ((), (1,), (2, 1), (0, 3)):
                for loop in ((0,), (1,), (2,), (-1,), (1, 2), (1, -1), (2, 4, 1)):
                    told = Sum(base, take, first, loop)
                    for d in (1, 2, 3, 4, 5, 6, 7, 9):
                        found = (sum_rest_fails(told, d), sum_fails(told, d))
                        by_definition = early(told, d, stretch)
                        self.assertEqual(found, by_definition, (base, take, first, loop, d))

    def test_keeps_the_rest_just_if_the_powers_have_the_rests_of_the_weights(self):
        for base, take in PARTS:
            for d in range(1, 31):
                for told in some_sums(base, take, d):
                    weights = list(told.first) + list(told.loop) * 500
                    power, least = 1, None
                    for weight in weights[:12 + 12 * 30]:
                        if (weight - power) % d != 0:
                            least = power
                            break
                        power *= base ** take
                    self.assertEqual(sum_rest_fails(told, d), least)
                    self.assertEqual(sum_tells(told, d) == "rest", least is None)

    def test_what_keeps_the_rest_tells_multiples(self):
        for base, take in PARTS:
            for d in range(1, 31):
                for told in some_sums(base, take, d):
                    if sum_rest_fails(told, d) is None:
                        self.assertIsNone(sum_fails(told, d))

    def test_times_what_shares_no_divisor(self):
        for d in range(2, 31):
            first, loop = rest_weights(10, 1, d)
            if len(loop) > 12:
                continue
            for times in range(2, d):
                told = Sum(10, 1, tuple(times * weight for weight in first), tuple(times * weight for weight in loop))
                word = "multiples" if gcd(times, d) == 1 else "nothing"
                self.assertEqual(sum_tells(told, d), word)

    def test_multiples_without_one_factor(self):
        # Two binary figures tell the rest by 4: only 0 has the rest 0, whatever not opposite weights they have.
        self.assertEqual([sum_tells(Sum(2, 1, first, (4, 0)), 4) for first in ((1, 2), (1, 1), (3, 2), (1, 3))],
                         ["rest", "multiples", "multiples", "nothing"])
        self.assertEqual(sum_fails(Sum(2, 1, (1, 3), (0,)), 4), 3)

    def test_divisor_one(self):
        for base, take in PARTS:
            for weights in ((0,), (MOST, -MOST, 5)):
                self.assertEqual([told(Sum(base, take, weights, weights), 1) for told in OF_ONE_SUM],
                                 ["rest", None, None])

    def test_divisor_30(self):
        self.assertEqual([told(Sum(10, 1, (1,), (10,)), 30) for told in OF_ONE_SUM], ["rest", None, None])
        self.assertEqual([told(Sum(10, 1, (-1,), (-10,)), 30) for told in OF_ONE_SUM], ["multiples", 1, None])
        self.assertEqual([told(Sum(10, 1, (1,), (-10,)), 30) for told in OF_ONE_SUM], ["multiples", 10, None])
        self.assertEqual([told(Sum(10, 1, (1,), (10, 20)), 30) for told in OF_ONE_SUM], ["nothing", 100, 110])
        self.assertEqual([told(Sum(16, 2, (), (1,)), 30) for told in OF_ONE_SUM], ["nothing", 256, 270])

    def test_great_weights(self):
        self.assertEqual([told(Sum(10, 1, (), (MOST,)), 9) for told in OF_ONE_SUM], ["rest", None, None])
        self.assertEqual([told(Sum(10, 1, (), (-MOST,)), 27) for told in OF_ONE_SUM], ["nothing", 1, 27])
        self.assertEqual([told(Sum(10, 1, (MOST,) * 12, (-MOST,) * 12), 9) for told in OF_ONE_SUM],
                         ["nothing", 10 ** 12, 10 ** 12 + 1])

    def test_far_away(self):
        # All the first weights are right, those of the loop are not.
        right = tuple(2 ** place % 29 for place in range(24))
        self.assertEqual(sum_rest_fails(Sum(2, 1, right[:12], right[12:]), 29), 2 ** 24)
        self.assertEqual(sum_rest_fails(Sum(10, 2, (1,) * 12, (1,) * 11 + (2,)), 11), 10 ** 46)
        told = Sum(10, 2, (1,) * 12, (1,) * 11 + (2,))
        self.assertEqual([sum_tells(told, 11), sum_fails(told, 11)], ["nothing", 10 ** 46 + 9])

    def test_far_away_is_the_least(self):
        # Below 2 ** 12 all rests are kept; the failure told is the first number above with unlike multiples.
        right = tuple(2 ** place % 19 for place in range(12))
        told = Sum(2, 1, right, (0,))
        least = [n for n in range(10000) if (n % 19 == 0) != (total_by_blocks(told, n) % 19 == 0)][0]
        self.assertEqual([sum_rest_fails(told, 19), sum_fails(told, 19)], [4096, least])

    def test_behind_places_that_bring_the_same_weights_again(self):
        # The weights and the rests of the powers come again behind four places, 84 has seven figures.
        told = Sum(2, 1, (9, 7), (11, 1))
        self.assertEqual((sum_rest_fails(told, 12), sum_fails(told, 12)), early(told, 12, 100))
        self.assertEqual(sum_fails(told, 12), 84)

    def test_none_means_none(self):
        for told, d in ((Sum(10, 1, (), (2,)), 9), (Sum(10, 1, (), (3, -1, -4)), 13), (Sum(10, 2, (), (5, -5)), 17)):
            word = sum_tells(told, d)
            for n in [k * d for k in (1, 7 ** 9, GREATEST // d)] + [10 ** 39 + k for k in range(300)]:
                if word != "nothing":
                    self.assertEqual(n % d == 0, total(told, n) % d == 0)
        self.assertEqual(sum_tells(Sum(10, 1, (), (2,)), 9), "multiples")

    def test_equal_calls_give_equal_results(self):
        for told in OF_ONE_SUM:
            self.assertEqual(told(Sum(10, 1, (3,), (1, 2)), 7), told(Sum(10, 1, (3,), (1, 2)), 7))

    def test_no_sum(self):
        for function in OF_ONE_SUM:
            for told in NO_SUMS:
                for d in (7, 0, None, 31):
                    self.refused(BadSum, function, told, d)

    def test_no_divisor(self):
        for function in OF_ONE_SUM:
            for d in WRONG_SMALL_DIVISORS:
                self.refused(BadDivisor, function, Sum(10, 1, (), (1,)), d)


class RestWeights(Case):

    def test_weights_of_the_powers(self):
        for base in range(2, 17):
            for take in (1, 2):
                for d in range(1, 31):
                    found = rest_weights(base, take, d)
                    self.assertEqual([part.__class__ for part in (found,) + found], [tuple] * 3)
                    first, loop = found
                    weights = (first + loop * 80)[:80]
                    for place, weight in enumerate(weights):
                        self.assertEqual((weight - base ** (take * place)) % d, 0)
                        self.assertTrue(-d < 2 * weight <= d)

    def test_shortest(self):
        for base in range(2, 17):
            for take in (1, 2):
                for d in range(1, 31):
                    rests = [base ** (take * place) % d for place in range(80)]
                    # The pairs of a beginning and of a length of what comes again and again.
                    pairs = [(start, length) for start in range(6) for length in range(1, 31)
                             if all(rests[k] == rests[k + length] for k in range(start, 40))]
                    first, loop = rest_weights(base, take, d)
                    self.assertEqual(len(first), min(start for start, length in pairs))
                    self.assertEqual(len(loop), min(length for start, length in pairs))

    def test_a_sum_with_these_keeps_the_rest(self):
        many = 0
        for base in range(2, 17):
            for take in (1, 2):
                for d in range(1, 31):
                    first, loop = rest_weights(base, take, d)
                    if len(loop) <= 12:
                        many += 1
                        self.assertEqual(sum_tells(Sum(base, take, first, loop), d), "rest")
        self.assertGreater(many, 700)

    def test_edges(self):
        self.assertEqual(rest_weights(2, 1, 1), ((), (0,)))
        self.assertEqual(rest_weights(16, 2, 1), ((), (0,)))
        self.assertEqual(rest_weights(2, 1, 2), ((1,), (0,)))
        self.assertEqual(rest_weights(3, 1, 2), ((), (1,)))
        self.assertEqual(rest_weights(2, 1, 16), ((1, 2, 4, 8), (0,)))
        self.assertEqual(rest_weights(10, 1, 30), ((1,), (10,)))
        self.assertEqual(rest_weights(16, 2, 30), ((1,), (-14,)))
        self.assertEqual(rest_weights(10, 2, 11), ((), (1,)))

    def test_loop_of_more_than_twelve(self):
        first, loop = rest_weights(2, 1, 29)
        self.assertEqual((first, len(loop), loop[:6]), ((), 28, (1, 2, 4, 8, -13, 3)))

    def test_no_base(self):
        for base in WRONG_BASES:
            self.refused(BadBase, rest_weights, base, 1, 7)
            self.refused(BadBase, rest_weights, base, 3, 0)
            self.refused(BadBase, rest_weights, base, None, 7)

    def test_no_take(self):
        for take in WRONG_TAKES:
            for d in (7, 0, None):
                self.refused(BadTake, rest_weights, 10, take, d)

    def test_no_divisor(self):
        for d in WRONG_SMALL_DIVISORS:
            self.refused(BadDivisor, rest_weights, 10, 1, d)


if __name__ == "__main__":
    unittest.main()
