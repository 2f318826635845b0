"""Point 6, and what point 16 says of it."""

import unittest

from resttricks.ends import bound, ring_of, rings, rounds
from resttricks.errors import BadTrick
from resttricks.tricks import Trick, done
from tests.wrong import GREATEST, HUGE, WRONG_NUMBERS, WRONG_TRICKS, Case

WRONG_LOWS = WRONG_NUMBERS + (-1, -GREATEST)
SOME_TIMES = (-100, -9, -2, -1, 0, 1, 2, 7, 100)
SMALL_TRICKS = [Trick(base, take, times) for base, take in ((2, 1), (3, 1), (4, 1), (7, 1), (10, 1), (16, 1), (2, 2))
                for times in SOME_TIMES]
WIDE_TRICKS = [Trick(base, 2, times) for base, times in ((10, -100), (10, 100), (16, -100), (16, 1), (16, 100))]
SOME_NUMBERS = tuple(range(-40, 41)) + (
    371, -371, 25599, 25601, -25601, 10 ** 20, -10 ** 20, GREATEST, GREATEST - 1, -GREATEST, 1 - GREATEST)


def made(trick, n):
    """What the trick makes of any integer, also of one that is no number."""
    block = trick.base ** trick.take
    return n // block + trick.times * (n % block)


def far_enough(trick):
    """A size up to which the trick leads to no greater one, and beyond which it makes all sizes less."""
    return abs(trick.times) * trick.base ** trick.take + 4


def bound_by_definition(trick):
    """The bound, looked up number by number."""
    stretch = range(-far_enough(trick), far_enough(trick) + 1)
    return max(abs(n) for n in stretch if abs(made(trick, n)) >= abs(n))


def rings_by_definition(trick):
    """All rings: what is left of a closed stretch, done so often that no number is lost any more."""
    left = set(range(-far_enough(trick), far_enough(trick) + 1))
    later = {made(trick, n) for n in left}
    while later != left:
        left, later = later, {made(trick, n) for n in later}
    found = []
    while left:
        n = min(left)
        ring = []
        while n in left:
            left.remove(n)
            ring.append(n)
            n = made(trick, n)
        found.append(tuple(ring))
    return found


class PrintedExamples(Case):

    def test_first(self):
        trick = Trick(10, 1, 1)
        self.assertEqual(
            [bound(trick), rings(trick)[-2:], ring_of(trick, 999), rounds(trick, 999, 20), rounds(trick, 9, 8)],
            [9, [(8,), (9,)], (3, (9,)), 2, None])

    def test_second(self):
        self.assertEqual(
            [ring_of(Trick(10, 1, -2), 371), rings(Trick(2, 1, 0)), bound(Trick(2, 1, 0))],
            [(2, (-7,)), [(-1,), (0,)], 1])


class Bound(Case):

    def test_by_definition(self):
        for trick in SMALL_TRICKS + WIDE_TRICKS:
            self.assertEqual(bound(trick), bound_by_definition(trick), (trick.base, trick.take, trick.times))

    def test_all_times_of_some_blocks(self):
        for base, take in ((2, 1), (3, 1), (10, 1), (2, 2)):
            for times in range(-100, 101):
                trick = Trick(base, take, times)
                self.assertEqual(bound(trick), bound_by_definition(trick), (base, take, times))

    def test_edges(self):
        self.assertEqual([bound(Trick(2, 1, times)) for times in (-100, -1, 0, 1, 100)], [201, 3, 1, 1, 199])
        self.assertEqual([bound(Trick(10, 1, times)) for times in (-100, -1, 0, 1, 100)], [1001, 11, 1, 9, 999])
        self.assertEqual([bound(Trick(16, 2, times)) for times in (-100, -1, 0, 1, 100)], [25601, 257, 1, 255, 25599])

    def test_no_trick(self):
        for trick in WRONG_TRICKS:
            self.refused(BadTrick, bound, trick)


class Rings(Case):

    def test_by_definition(self):
        for trick in SMALL_TRICKS + WIDE_TRICKS:
            self.assertEqual(rings(trick), rings_by_definition(trick), (trick.base, trick.take, trick.times))

    def test_all_times_of_some_blocks(self):
        for base, take in ((2, 1), (3, 1), (10, 1), (2, 2)):
            for times in range(-100, 101):
                trick = Trick(base, take, times)
                self.assertEqual(rings(trick), rings_by_definition(trick), (base, take, times))

    def test_written_out(self):
        self.assertEqual(rings(Trick(10, 1, -2)), [
            (-21,), (-20, -2, -17, -8, -5, -11), (-19, -4, -13, -16, -10, -1), (-18, -6, -9, -3, -15, -12),
            (-14,), (-7,), (0,)])
        self.assertEqual(rings(Trick(2, 1, -1)), [(-3,), (-2, -1), (0,)])
        self.assertEqual(rings(Trick(2, 1, 2)), [(0,), (1, 2), (3,)])
        self.assertEqual(rings(Trick(10, 1, 0)), [(-1,), (0,)])
        self.assertEqual(rings(Trick(10, 1, 1)), [(n,) for n in range(10)])

    def test_each_ring_goes_round(self):
        for trick in SMALL_TRICKS + WIDE_TRICKS:
            found = rings(trick)
            self.assertIs(found.__class__, list)
            self.assertEqual(found, sorted(found))
            for ring in found:
                self.assertIs(ring.__class__, tuple)
                self.assertEqual(ring[0], min(ring))
                self.assertEqual(len(set(ring)), len(ring))
                self.assertEqual([done(trick, n) for n in ring], list(ring[1:] + ring[:1]))

    def test_a_new_list_each_time(self):
        rings(Trick(2, 1, 0)).clear()
        self.assertEqual(rings(Trick(2, 1, 0)), [(-1,), (0,)])

    def test_no_trick(self):
        for trick in WRONG_TRICKS:
            self.refused(BadTrick, rings, trick)


class RingOf(Case):

    def test_by_definition(self):
        for trick in SMALL_TRICKS + WIDE_TRICKS:
            ring_with = {n: ring for ring in rings_by_definition(trick) for n in ring}
            for n in SOME_NUMBERS:
                many, later = 0, n
                while later not in ring_with:
                    many, later = many + 1, made(trick, later)
                found = ring_of(trick, n)
                self.assertIs(found.__class__, tuple)
                self.assertEqual(found, (many, ring_with[later]), (trick.base, trick.take, trick.times, n))

    def test_numbers_of_rings_tell_no_rounds(self):
        for trick in SMALL_TRICKS:
            for ring in rings(trick):
                for n in ring:
                    self.assertEqual(ring_of(trick, n), (0, ring))

    def test_numbers_that_grow_first(self):
        self.assertEqual(ring_of(Trick(2, 1, -5), 15), (3, (-10, -5, -8, -4, -2, -1, -6, -3, -7, -9)))
        self.assertEqual(ring_of(Trick(16, 1, 4), 15), (0, (15, 60, 51)))
        self.assertEqual(ring_of(Trick(2, 1, -100), 1)[0], 1)

    def test_greatest_numbers(self):
        self.assertEqual(ring_of(Trick(10, 1, 0), GREATEST), (41, (0,)))
        self.assertEqual(ring_of(Trick(10, 1, 0), -GREATEST), (40, (-1,)))
        self.assertEqual(ring_of(Trick(2, 1, 0), GREATEST), (133, (0,)))
        self.assertEqual(ring_of(Trick(10, 1, 1), GREATEST), (40, (1,)))
        self.assertEqual(ring_of(Trick(16, 2, 100), 0), (0, (0,)))

    def test_no_trick(self):
        for trick in WRONG_TRICKS:
            for n in (371, None, GREATEST + 1):
                self.refused(BadTrick, ring_of, trick, n)

    def test_no_number(self):
        for n in WRONG_NUMBERS:
            self.refused_number(n, ring_of, Trick(10, 1, -2), n)


class Rounds(Case):

    def test_by_definition(self):
        for trick in SMALL_TRICKS + WIDE_TRICKS[:1]:
            for n in SOME_NUMBERS[::3]:
                many, ring = ring_of(trick, n)
                sizes, later = [], n
                for _ in range(many + len(ring)):
                    sizes.append(abs(later))
                    later = made(trick, later)
                for low in (0, 1, 2, 7, 20, 999, 10 ** 10, GREATEST):
                    least = min([at for at, size in enumerate(sizes) if size <= low], default=None)
                    self.assertEqual(rounds(trick, n, low), least, (trick.base, trick.take, trick.times, n, low))

    def test_edges(self):
        trick = Trick(10, 1, 0)
        self.assertEqual([rounds(trick, n, 0) for n in (0, 1, -1, 10, GREATEST, -GREATEST)], [0, 1, None, 2, 41, None])
        self.assertEqual([rounds(trick, n, GREATEST) for n in (0, GREATEST, -GREATEST)], [0, 0, 0])
        self.assertEqual([rounds(trick, n, GREATEST - 1) for n in (0, GREATEST, -GREATEST)], [0, 1, 1])
        self.assertEqual(rounds(Trick(10, 1, 1), 9, 9), 0)

    def test_numbers_that_grow_first(self):
        # 9, -96, -48, -24, -12, -6 and 15, 107, 153, 176, 88, 44, 22, 11
        self.assertEqual([rounds(Trick(2, 1, -100), 9, low) for low in (8, 9, 6)], [5, 0, 5])
        self.assertEqual([rounds(Trick(2, 1, 100), 15, low) for low in (14, 15, 11)], [7, 0, 7])

    def test_late_on_a_ring(self):
        # The numbers are -1, -19, -4, -13, -16, -10, -1 and so on.
        self.assertEqual([rounds(Trick(10, 1, -2), -19, low) for low in (0, 1, 3, 4, 18, 19)], [None, 5, 5, 1, 1, 0])

    def test_no_trick(self):
        for trick in WRONG_TRICKS:
            self.refused(BadTrick, rounds, trick, 371, 5)
            self.refused(BadTrick, rounds, trick, None, None)

    def test_no_number(self):
        for n in WRONG_NUMBERS:
            for low in (0, None, -1, HUGE):
                self.refused_number(n, rounds, Trick(10, 1, -2), n, low)

    def test_no_low(self):
        for low in WRONG_LOWS:
            self.refused_number(low, rounds, Trick(10, 1, -2), 371, low)


if __name__ == "__main__":
    unittest.main()
