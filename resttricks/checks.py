"""Which wrong figures a rest does not tell (point 11)."""

from resttricks.limits import GREATEST_DIVISOR, check_base, check_divisor, check_stretch

GREATEST_LENGTH = 40


def slip(base, d, length):
    """The least (place, difference) of one wrong figure that does not change the rest by d; None if there is none."""
    check_base(base)
    check_divisor(d)
    check_length(length)
    return least_unseen(base, d, length, 1)


def swap(base, d, length, far):
    """The least (place, difference) of two figures, so far apart, whose exchange does not change the rest by d.

    None if there is none.
    """
    check_base(base)
    check_divisor(d)
    check_length(length)
    check_length(far)
    power = 1
    for _ in range(far):
        power *= base
    return least_unseen(base, d, length - far, power - 1)


def good_divisors(base, length, most):
    """The ascending list of all divisors up to most whose rest tells each slip, and each swap of neighbours."""
    check_base(base)
    check_length(length)
    check_stretch(most, 1, GREATEST_DIVISOR)
    return [d for d in range(1, most + 1)
            if slip(base, d, length) is None and swap(base, d, length, 1) is None]


def check_length(length):
    """Raise BadNumber for anything but an integer from 1 to 40."""
    check_stretch(length, 1, GREATEST_LENGTH)


def least_unseen(base, d, places, change):
    """The least (place, difference) with a change of the number that is a multiple of d; None if there is none.

    There are so many places, from 0 on; a difference of 1 at place 0 changes the number by change.
    """
    rest = change % d
    for place in range(places):
        for difference in range(1, base):
            if difference * rest % d == 0:
                return (place, difference)
        rest = rest * base % d
    return None
