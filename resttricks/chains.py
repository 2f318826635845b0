"""Tricks one behind the other (point 12)."""

from resttricks.errors import BadTricks, TooWide
from resttricks.limits import check_divisor, check_number, is_list_or_tuple
from resttricks.tricks import Trick, made_of, trick_block

MOST_TRICKS = 4
GREATEST_CHAIN_DIVISOR = 30
GREATEST_PRODUCT = 300


def chained(tricks, n):
    """The number behind all tricks of the chain."""
    check_tricks(tricks)
    check_number(n)
    return made_of_all(tricks, n)


def chain_tells(tricks, d):
    """Whether the chain tells the "rest" by d, or only "multiples" of it, or "nothing"."""
    check_chain(tricks, d)
    found = rest_pairs(tricks, d)
    if all([rest == made for rest, made in found]):
        return "rest"
    if all([(rest == 0) == (made == 0) for rest, made in found]):
        return "multiples"
    return "nothing"


def chain_fails(tricks, d):
    """The least n from 0 on such that just one of n and what is made of it is a multiple; None if there is none."""
    check_chain(tricks, d)
    for n, (rest, made) in enumerate(rest_pairs(tricks, d)):
        if (rest == 0) != (made == 0):
            return n
    return None


def check_tricks(tricks):
    """Raise BadTricks for anything but a list or tuple of 1 to 4 Tricks."""
    if not is_list_or_tuple(tricks, 1, MOST_TRICKS):
        raise BadTricks(None)
    for index, trick in enumerate(tricks):
        if not isinstance(trick, Trick):
            raise BadTricks(index)


def check_chain(tricks, d):
    """Raise the error for a chain, or a divisor of it, or a product of blocks that cannot be looked at."""
    check_tricks(tricks)
    check_divisor(d, GREATEST_CHAIN_DIVISOR)
    if blocks_product(tricks) > GREATEST_PRODUCT:
        raise TooWide(GREATEST_PRODUCT)


def made_of_all(tricks, n):
    """What the tricks, one behind the other, make of an integer of any size."""
    for trick in tricks:
        n = made_of(trick, n)
    return n


def blocks_product(tricks):
    """The product of the blocks of the tricks."""
    found = 1
    for trick in tricks:
        found *= trick_block(trick)
    return found


def rest_pairs(tricks, d):
    """The list of the rests by d of n, and of what the chain makes of n, for 0, 1, .. until all pairs come again."""
    width = blocks_product(tricks)
    made = [made_of_all(tricks, n) for n in range(width)]
    # Where n grows by the product of the blocks, what the chain makes of it grows by 1, as with a single trick;
    # so behind d such stretches, both have the rests again that they had at first.
    return [(n % d, (made[n % width] + n // width) % d) for n in range(width * d)]
