"""Which integers stand for bases, numbers and the like, and the errors for all other values."""

from resttricks.errors import BadBase, BadDivisor, BadNumber, BadTake

GREATEST_NUMBER = 10 ** 40
LEAST_BASE = 2
GREATEST_BASE = 16
GREATEST_TAKE = 2
GREATEST_DIVISOR = 100


def is_integer(told, low, high):
    """Whether it is an integer from low to high."""
    # For Python, True and False are integers; the document excludes them.
    return isinstance(told, int) and not isinstance(told, bool) and low <= told <= high


def is_tuple(told, fewest, most):
    """Whether it is a tuple of fewest to most things."""
    return isinstance(told, tuple) and fewest <= len(told) <= most


def is_list_or_tuple(told, fewest, most):
    """Whether it is a list or tuple of fewest to most things."""
    return isinstance(told, (list, tuple)) and fewest <= len(told) <= most


def is_number(told):
    """Whether it is a number."""
    return is_integer(told, -GREATEST_NUMBER, GREATEST_NUMBER)


def first_wrong(told, low, high):
    """The index of the first thing that is no integer from low to high; None if all are."""
    for index, thing in enumerate(told):
        if not is_integer(thing, low, high):
            return index
    return None


def check_base(base):
    """Raise BadBase for anything but an integer from 2 to 16."""
    if not is_integer(base, LEAST_BASE, GREATEST_BASE):
        raise BadBase("no integer from 2 to 16")


def check_take(take):
    """Raise BadTake for anything but 1 and 2."""
    if not is_integer(take, 1, GREATEST_TAKE):
        raise BadTake("neither 1 nor 2")


def check_divisor(d, greatest=GREATEST_DIVISOR):
    """Raise BadDivisor for anything but an integer from 1 to greatest."""
    if not is_integer(d, 1, greatest):
        raise BadDivisor(f"no integer from 1 to {greatest}")


def check_stretch(n, low, high):
    """Raise BadNumber(n) for anything but an integer from low to high."""
    if not is_integer(n, low, high):
        raise BadNumber(n)


def check_number(n):
    """Raise BadNumber(n) for anything but a number."""
    if not is_number(n):
        raise BadNumber(n)
