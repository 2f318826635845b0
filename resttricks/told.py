"""Tricks that are told by what they make (point 13)."""

from resttricks.bases import block_of
from resttricks.errors import BadPairs
from resttricks.limits import GREATEST_BASE, GREATEST_TAKE, LEAST_BASE, is_list_or_tuple, is_number
from resttricks.tricks import GREATEST_TIMES, made_with

MOST_PAIRS = 10


def fitting(pairs):
    """The ascending list of all (base, take, times) of tricks that make later of n for all pairs (n, later)."""
    check_pairs(pairs)
    return [(base, take, times) for base in range(LEAST_BASE, GREATEST_BASE + 1)
            for take in range(1, GREATEST_TAKE + 1)
            for times in fitting_times(block_of(base, take), pairs)]


def check_pairs(pairs):
    """Raise BadPairs for anything but a list or tuple of 1 to 10 pairs of numbers."""
    if not is_list_or_tuple(pairs, 1, MOST_PAIRS):
        raise BadPairs(None)
    for index, pair in enumerate(pairs):
        if not is_pair(pair):
            raise BadPairs(index)


def is_pair(told):
    """Whether it is a pair, that is a tuple, of two numbers."""
    return isinstance(told, tuple) and len(told) == 2 and is_number(told[0]) and is_number(told[1])


def fitting_times(block, pairs):
    """The ascending list of all times with which a trick of this block makes later of n for all pairs (n, later)."""
    found = list(range(-GREATEST_TIMES, GREATEST_TIMES + 1))
    for n, later in pairs:
        found = [times for times in found if made_with(block, times, n) == later]
    return found
