"""Sums of blocks, each times its weight, and what they tell of rests (points 7 and 8)."""

from resttricks.bases import block_of
from resttricks.errors import BadSum, BadWeights
from resttricks.limits import (
    GREATEST_NUMBER, check_base, check_divisor, check_stretch, check_take, first_wrong, is_tuple)

GREATEST_WEIGHT = 10 ** 6
MOST_WEIGHTS = 12
GREATEST_SUM_DIVISOR = 30


class Sum:
    """The blocks of a number, from the last one on, have the weights first, then those of loop again and again."""

    def __init__(self, base, take, first, loop):
        check_base(base)
        check_take(take)
        check_weights(first, 0)
        check_weights(loop, 1)
        self._base = base
        self._take = take
        self._first = first
        self._loop = loop

    @property
    def base(self):
        """The base of the figures."""
        return self._base

    @property
    def take(self):
        """How many figures a block has."""
        return self._take

    @property
    def first(self):
        """The weights of the last blocks, the last one first."""
        return self._first

    @property
    def loop(self):
        """The weights that all further blocks have, again and again."""
        return self._loop

    def __eq__(self, other):
        return (isinstance(other, Sum) and self._base == other._base and self._take == other._take
                and self._first == other._first and self._loop == other._loop)


def total(told, n):
    """The sum of all blocks of a number from 0 on, each times its weight."""
    check_sum(told)
    check_stretch(n, 0, GREATEST_NUMBER)
    block = sum_block(told)
    found = 0
    place = 0
    left = n
    while left > 0:
        found += left % block * weight_at(told, place)
        left //= block
        place += 1
    return found


def sum_tells(told, d):
    """Whether the sum tells the "rest" by d, or only "multiples" of it, or "nothing"."""
    if sum_rest_fails(told, d) is None:
        return "rest"
    if sum_fails(told, d) is None:
        return "multiples"
    return "nothing"


def sum_rest_fails(told, d):
    """The least n from 0 on whose rest the sum does not keep; None if there is none."""
    check_sum(told)
    check_divisor(d, GREATEST_SUM_DIVISOR)
    block = sum_block(told)
    power = 1
    # Below the first power whose weight has another rest, all numbers keep theirs.
    for place in range(turn(told, d)):
        if (weight_at(told, place) - power) % d != 0:
            return power
        power *= block
    return None


def sum_fails(told, d):
    """The least n from 0 on such that just one of n and its total is a multiple; None if there is none."""
    check_sum(told)
    check_divisor(d, GREATEST_SUM_DIVISOR)
    block = sum_block(told)
    # For each pair of rests, of n and of its total, the least n that has it, in ascending order of these n.
    least = {(0, 0): 0}
    place = 0
    power = 1
    idle = 0
    most_idle = turn(told, d)
    # Behind a whole turn of places that bring no new pair, none will.
    while idle < most_idle:
        new = new_rests(least, block, power, weight_at(told, place), d)
        for (rest, made), n in new.items():
            if (rest == 0) != (made == 0):
                return n
            least[(rest, made)] = n
        idle = 0 if new else idle + 1
        place += 1
        power *= block
    return None


def rest_weights(base, take, d):
    """The shortest first and the shortest loop of the weights nearest to 0 with which a sum keeps the rest by d."""
    check_base(base)
    check_take(take)
    check_divisor(d, GREATEST_SUM_DIVISOR)
    before, again = power_rests(block_of(base, take), d)
    return (tuple([nearest(rest, d) for rest in before]), tuple([nearest(rest, d) for rest in again]))


def check_weights(told, fewest):
    """Raise BadWeights for anything but a tuple of fewest to 12 weights."""
    if not is_tuple(told, fewest, MOST_WEIGHTS):
        raise BadWeights(None)
    index = first_wrong(told, -GREATEST_WEIGHT, GREATEST_WEIGHT)
    if index is not None:
        raise BadWeights(index)


def check_sum(told):
    """Raise BadSum for anything but a Sum."""
    if not isinstance(told, Sum):
        raise BadSum("no Sum")


def sum_block(told):
    """The number of unlike blocks of the sum."""
    return block_of(told.base, told.take)


def weight_at(told, place):
    """The weight of the block at the place, counted from 0, from the last block on."""
    further = place - len(told.first)
    return told.first[place] if further < 0 else told.loop[further % len(told.loop)]


def power_rests(block, d):
    """The pair of the rests by d of the powers of the block that come once, and of those that come again and again."""
    rests = []
    rest = 1 % d
    while rest not in rests:
        rests.append(rest)
        rest = rest * block % d
    again = rests.index(rest)
    return (rests[:again], rests[again:])


def nearest(rest, d):
    """The number nearest to 0 that has this rest by d, the one above 0 if there are two."""
    return rest if 2 * rest <= d else rest - d


def turn(told, d):
    """A number of places behind which the weights, and the rests of the powers, have come in all ways they do."""
    before, again = power_rests(sum_block(told), d)
    return max(len(told.first), len(before)) + len(told.loop) * len(again)


def new_rests(least, block, power, weight, d):
    """The pairs of rests that only numbers with a block at this place have, each with the least of these numbers."""
    new = {}
    for many in range(1, block):
        known = len(new)
        for (rest, made), n in least.items():
            pair = ((rest + many * (power % d)) % d, (made + many * weight) % d)
            if pair not in least and pair not in new:
                new[pair] = many * power + n
        # If a block brings nothing new, the next one only brings what this one and the ones before it brought.
        if len(new) == known:
            break
    return new
