"""The smallest machines that read figures and tell of rests, and words that tell their states apart (points 9, 10).

A machine is a pair here: the list of the labels of its states, which are numbers from 0, and the list of the lists
of the states to which each figure leads them.
"""

from resttricks.bases import check_figures
from resttricks.errors import BadRest, BadRests
from resttricks.limits import check_base, first_wrong, is_integer, is_tuple

MOST_LABELS = 20
GREATEST_LABEL = 19


def front_states(base, labels):
    """The fewest states of a machine for the labels that reads from the first figure on."""
    return max(front_classes(base, labels)) + 1


def back_states(base, labels):
    """The fewest states of a machine for the labels that reads from the last figure on."""
    check_base(base)
    check_labels(labels)
    return max(classes(back_machine(base, labels))) + 1


def front_classes(base, labels):
    """The tuple of the number of the class of each rest, 0, 1, .. by their first rests."""
    check_base(base)
    check_labels(labels)
    return tuple(classes(front_machine(base, labels)))


def front_word(base, labels, one, other):
    """The shortest word, of these the least, that leads two rests to unlike labels; None if they fall together."""
    check_base(base)
    check_labels(labels)
    check_rest(one, len(labels))
    check_rest(other, len(labels))
    return least_word(front_machine(base, labels), one, other)


def back_word(base, labels, one, other):
    """The shortest word, of these the least, that behind two words leads to unlike labels; None if there is none."""
    check_base(base)
    check_labels(labels)
    check_figures(one, base, 0)
    check_figures(other, base, 0)
    machine = back_machine(base, labels)
    return least_word(machine, state_behind(machine, one), state_behind(machine, other))


def check_labels(labels):
    """Raise BadRests for anything but a tuple of 1 to 20 labels."""
    if not is_tuple(labels, 1, MOST_LABELS):
        raise BadRests(None)
    index = first_wrong(labels, 0, GREATEST_LABEL)
    if index is not None:
        raise BadRests(index)


def check_rest(rest, d):
    """Raise BadRest for anything but an integer from 0 to d - 1."""
    if not is_integer(rest, 0, d - 1):
        raise BadRest("no integer from 0 to d - 1")


def front_machine(base, labels):
    """A machine that reads from the first figure on, with a state for each rest."""
    d = len(labels)
    steps = [[(rest * base + figure) % d for figure in range(base)] for rest in range(d)]
    return (list(labels), steps)


def back_machine(base, labels):
    """A machine that reads from the last figure on; its state 0 has read nothing, and all its states are reached."""
    d = len(labels)
    # The rest of the number read, and that of what the next figure counts, are all that matters.
    reached = [(0, 1 % d)]
    numbers = {reached[0]: 0}
    steps = []
    while len(steps) < len(reached):
        rest, power = reached[len(steps)]
        row = []
        for figure in range(base):
            later = ((rest + figure * power) % d, power * base % d)
            if later not in numbers:
                numbers[later] = len(reached)
                reached.append(later)
            row.append(numbers[later])
        steps.append(row)
    return ([labels[rest] for rest, power in reached], steps)


def state_behind(machine, word):
    """The state in which a machine is that has read the word from its state 0 on."""
    steps = machine[1]
    state = 0
    for figure in word:
        state = steps[state][figure]
    return state


def classes(machine):
    """The list of the number of the class of each state; those of one class have equal labels behind all words."""
    told, steps = machine
    found = numbered(told)
    while True:
        # Two states stay in one class if each figure leads them to one class, too.
        finer = numbered([(found[state], tuple([found[later] for later in row])) for state, row in enumerate(steps)])
        if finer == found:
            return found
        found = finer


def numbered(things):
    """The list of a number for each thing, equal ones having equal numbers, 0, 1, .. by their first places."""
    numbers = {}
    found = []
    for thing in things:
        if thing not in numbers:
            numbers[thing] = len(numbers)
        found.append(numbers[thing])
    return found


def least_word(machine, one, other):
    """The shortest word, of these the least, that leads two states to unlike labels; None if there is none."""
    told, steps = machine
    words = {(one, other): ()}
    pairs = [(one, other)]
    # The pairs stand in the order of their words, so the first one with unlike labels has the least word.
    while pairs:
        further = []
        for left, right in pairs:
            word = words[(left, right)]
            if told[left] != told[right]:
                return word
            for figure, pair in enumerate(zip(steps[left], steps[right])):
                if pair not in words:
                    words[pair] = word + (figure,)
                    further.append(pair)
        pairs = further
    return None
