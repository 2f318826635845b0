"""What a trick tells of the rests by a divisor (points 4 and 5)."""

from resttricks.bases import block_of
from resttricks.limits import GREATEST_DIVISOR, check_base, check_divisor, check_stretch, check_take
from resttricks.tricks import check_trick, made_of, trick_block


def tells(trick, d):
    """Whether the trick tells the "rest" by d, or only "multiples" of it, or "nothing"."""
    check_trick(trick)
    check_divisor(d)
    if keeps_rest(trick, d):
        return "rest"
    if tells_multiples(trick_block(trick), trick.times, d):
        return "multiples"
    return "nothing"


def rest_fails(trick, d):
    """The least n from 0 on whose rest the trick does not keep; None if there is none."""
    check_trick(trick)
    check_divisor(d)
    for n in range(period(trick, d)):
        if n % d != made_of(trick, n) % d:
            return n
    return None


def fails(trick, d):
    """The least n from 0 on such that just one of n and what is made of it is a multiple; None if there is none."""
    check_trick(trick)
    check_divisor(d)
    for n in range(period(trick, d)):
        if (n % d == 0) != (made_of(trick, n) % d == 0):
            return n
    return None


def factor(trick, d):
    """The least u such that what is made of n has the same rest as u * n for all n; None if there is none."""
    check_trick(trick)
    check_divisor(d)
    if not tells_multiples(trick_block(trick), trick.times, d):
        return None
    # The trick makes times of 1, so no other rest can be the factor.
    return trick.times % d


def multipliers(base, take, d):
    """The ascending list of the rests by d of all integers times with which a trick tells multiples of d."""
    check_base(base)
    check_take(take)
    check_divisor(d)
    block = block_of(base, take)
    return [rest for rest in range(d) if tells_multiples(block, rest, d)]


def divisors(trick, most):
    """The ascending list of all divisors up to most of which the trick tells the multiples."""
    check_trick(trick)
    check_stretch(most, 1, GREATEST_DIVISOR)
    block = trick_block(trick)
    return [d for d in range(1, most + 1) if tells_multiples(block, trick.times, d)]


def keeps_rest(trick, d):
    """Whether n and what the trick makes of n have the same rest by d for all n."""
    # It makes 1 of the block and times of 1; all other numbers are put together of these two.
    return (trick_block(trick) - 1) % d == 0 and (trick.times - 1) % d == 0


def tells_multiples(block, times, d):
    """Whether for all n just both, n and what such a trick makes of n, are multiples of d, or none of both."""
    # It makes 0 of 1 - times * block, which therefore must be a multiple; and if it is one,
    # block times what is made of n has the rest of n, and block shares no divisor with d.
    return (times * block - 1) % d == 0


def period(trick, d):
    """A stretch behind which the rests by d, of n and of what the trick makes of n, come again."""
    return trick_block(trick) * d
