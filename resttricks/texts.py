"""Tricks as texts (point 15)."""

from resttricks.errors import InvalidText
from resttricks.limits import GREATEST_BASE, GREATEST_TAKE, LEAST_BASE
from resttricks.tricks import GREATEST_TIMES, Trick, check_trick


def write(trick):
    """The text of the trick."""
    check_trick(trick)
    return f"base {trick.base} take {trick.take} times {trick.times}"


def read(text):
    """The Trick of a text."""
    # Spaces alone part words; other blanks, such as tabs, belong to a word, which then cannot stand.
    words = [word for word in text.split(" ") if word != ""]
    places = possible_words()
    for place, possible in enumerate(places):
        if place == len(words) or words[place] not in possible:
            raise InvalidText(place + 1)
    if len(words) > len(places):
        raise InvalidText(len(places) + 1)
    return Trick(int(words[1]), int(words[3]), int(words[5]))


def possible_words():
    """The list of the lists of the words that can stand at each place of a text."""
    return [["base"], written(LEAST_BASE, GREATEST_BASE),
            ["take"], written(1, GREATEST_TAKE),
            ["times"], written(-GREATEST_TIMES, GREATEST_TIMES)]


def written(low, high):
    """The list of the integers from low to high, as Python writes them."""
    return [str(n) for n in range(low, high + 1)]
