"""Where a trick ends that is done again and again (point 6)."""

from resttricks.limits import GREATEST_NUMBER, check_number, check_stretch
from resttricks.tricks import check_trick, made_of, trick_block


def bound(trick):
    """The greatest size of any integer of which the trick makes one of no lesser size."""
    check_trick(trick)
    block = trick_block(trick)
    return max([greatest_size(block, trick.times, rest) for rest in range(block)])


def rings(trick):
    """The ascending list of all rings of the trick."""
    greatest = bound(trick)
    seen = {}
    found = []
    # Not all sizes on a ring can be followed by lesser ones, so each ring has a number within the bound.
    for start in range(-greatest, greatest + 1):
        path = unseen_path(trick, start, seen)
        if path and made_of(trick, path[-1]) in path:
            found.append(ring_at_end(trick, path))
    return sorted(found)


def ring_of(trick, n):
    """The pair of the least number of rounds behind which n has come to a ring, and of this ring."""
    check_trick(trick)
    check_number(n)
    path = unseen_path(trick, n, {})
    ring = ring_at_end(trick, path)
    return (len(path) - len(ring), ring)


def rounds(trick, n, low):
    """The least number of rounds behind which the size of what has become of n is at most low; None if it never is."""
    check_trick(trick)
    check_number(n)
    check_stretch(low, 0, GREATEST_NUMBER)
    for many, later in enumerate(unseen_path(trick, n, {})):
        if abs(later) <= low:
            return many
    return None


def greatest_size(block, times, rest):
    """The greatest size of an integer with this rest by the block that does not get a lesser one; 0 if none is so."""
    # Quotient * block + rest and what is made of it, quotient + times * rest, are equal for the quotient
    # equal / (block - 1), and opposite for opposite / (block + 1). Between these two the size does not get less;
    # beyond them it does, since the block is at least 2.
    equal = (times - 1) * rest
    opposite = -(times + 1) * rest
    least = min(rounded_up(equal, block - 1), rounded_up(opposite, block + 1))
    greatest = max(equal // (block - 1), opposite // (block + 1))
    if least > greatest:
        return 0
    return max(abs(least * block + rest), abs(greatest * block + rest))


def rounded_up(n, d):
    """The quotient of n by d, rounded up."""
    return -(-n // d)


def unseen_path(trick, n, seen):
    """The list of n and of what becomes of it, up to the first number in seen, to which all of the list is put."""
    path = []
    while n not in seen:
        seen[n] = True
        path.append(n)
        n = made_of(trick, n)
    return path


def ring_at_end(trick, path):
    """The ring in which a path ends, the trick making of its last number one of the path."""
    ring = path[path.index(made_of(trick, path[-1])):]
    least_at = ring.index(min(ring))
    return tuple(ring[least_at:] + ring[:least_at])
