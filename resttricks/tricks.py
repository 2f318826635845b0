"""Tricks, and what they make of numbers (point 3)."""

from resttricks.bases import block_of
from resttricks.errors import BadTimes, BadTrick
from resttricks.limits import check_base, check_number, check_stretch, check_take, is_integer

GREATEST_TIMES = 100
MOST_ROUNDS = 200


class Trick:
    """The last figures of a number are taken off, and so many times them are put to the rest."""

    def __init__(self, base, take, times):
        check_base(base)
        check_take(take)
        if not is_integer(times, -GREATEST_TIMES, GREATEST_TIMES):
            raise BadTimes("no integer from -100 to 100")
        self._base = base
        self._take = take
        self._times = times

    @property
    def base(self):
        """The base of the figures."""
        return self._base

    @property
    def take(self):
        """How many figures are taken off."""
        return self._take

    @property
    def times(self):
        """How many times these figures are put to the rest."""
        return self._times

    def __eq__(self, other):
        return (isinstance(other, Trick) and self._base == other._base
                and self._take == other._take and self._times == other._times)


def done(trick, n):
    """The number behind the trick."""
    check_trick(trick)
    check_number(n)
    return made_of(trick, n)


def trail(trick, n, rounds):
    """The list of n, and of the numbers behind 1, 2, .. and rounds rounds of the trick."""
    check_trick(trick)
    check_number(n)
    check_stretch(rounds, 0, MOST_ROUNDS)
    found = [n]
    for _ in range(rounds):
        found.append(made_of(trick, found[-1]))
    return found


def ahead(trick, n):
    """The ascending list of all integers from 0 on of which the trick makes n."""
    check_trick(trick)
    check_number(n)
    block = trick_block(trick)
    found = []
    for rest in range(block):
        # The trick makes n just of the one integer with this rest and this quotient.
        quotient = n - trick.times * rest
        if quotient >= 0:
            found.append(quotient * block + rest)
    return sorted(found)


def check_trick(trick):
    """Raise BadTrick for anything but a Trick."""
    if not isinstance(trick, Trick):
        raise BadTrick("no Trick")


def trick_block(trick):
    """The block of the trick."""
    return block_of(trick.base, trick.take)


def made_of(trick, n):
    """What the trick makes of an integer of any size."""
    return made_with(trick_block(trick), trick.times, n)


def made_with(block, times, n):
    """What a trick of this block, with these times, makes of an integer of any size."""
    return n // block + times * (n % block)
