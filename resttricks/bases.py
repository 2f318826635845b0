"""Numbers and their figures (point 2)."""

from resttricks.errors import BadFigures
from resttricks.limits import GREATEST_NUMBER, check_base, check_stretch, first_wrong, is_tuple

MOST_FIGURES = 150


def figures(n, base):
    """The tuple of the figures of a number from 0 on, the first one first."""
    check_stretch(n, 0, GREATEST_NUMBER)
    check_base(base)
    found = [n % base]
    left = n // base
    while left > 0:
        found.append(left % base)
        left //= base
    return tuple(reversed(found))


def number(told, base):
    """The integer with these figures; noughts ahead are allowed."""
    check_base(base)
    check_figures(told, base, 1)
    n = 0
    for figure in told:
        n = n * base + figure
    return n


def check_figures(told, base, fewest):
    """Raise BadFigures for anything but a tuple of fewest to 150 figures in the base."""
    if not is_tuple(told, fewest, MOST_FIGURES):
        raise BadFigures(None)
    index = first_wrong(told, 0, base - 1)
    if index is not None:
        raise BadFigures(index)


def block_of(base, take):
    """The block, base ** take; take is 1 or 2."""
    return base if take == 1 else base * base
