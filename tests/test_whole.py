"""Point 1, and what the interface says of the whole: errors and their order, arguments, results, imports."""

import ast
import importlib
import pathlib
import unittest
from copy import deepcopy

import resttricks
from resttricks import errors
from resttricks.chains import chain_fails, chain_tells, chained
from resttricks.bases import figures, number
from resttricks.checks import good_divisors, slip, swap
from resttricks.ends import bound, ring_of, rings, rounds
from resttricks.judging import divisors, factor, fails, multipliers, rest_fails, tells
from resttricks.machines import back_states, back_word, front_classes, front_states, front_word
from resttricks.reckoners import Reckoner
from resttricks.sums import Sum, rest_weights, sum_fails, sum_rest_fails, sum_tells, total
from resttricks.texts import read, write
from resttricks.told import fitting
from resttricks.tricks import Trick, ahead, done, trail
from tests.wrong import (
    GREATEST, HUGE, NO_INTEGERS, NO_ROWS, NO_TUPLES, WRONG_BASES, WRONG_DIVISORS, WRONG_NUMBERS,
    WRONG_SMALL_DIVISORS, WRONG_TAKES, WRONG_TIMES, WRONG_TRICKS, Case)

INTERFACE = {
    "bases": ("figures", "number"),
    "tricks": ("Trick", "done", "trail", "ahead"),
    "judging": ("tells", "fails", "rest_fails", "factor", "multipliers", "divisors"),
    "ends": ("bound", "rings", "ring_of", "rounds"),
    "sums": ("Sum", "total", "sum_tells", "sum_fails", "sum_rest_fails", "rest_weights"),
    "machines": ("front_states", "back_states", "front_classes", "front_word", "back_word"),
    "checks": ("slip", "swap", "good_divisors"),
    "chains": ("chained", "chain_tells", "chain_fails"),
    "told": ("fitting",),
    "reckoners": ("Reckoner",),
    "texts": ("write", "read"),
}

TRICK = Trick(10, 1, -2)
SUM = Sum(10, 1, (5,), (1, -1))
FOUR = (0, 1, 1, 1)
TOO_WIDE = ([Trick(10, 2, 1), Trick(2, 2, 1)], (Trick(16, 2, 1),) * 4)

# What is wrong, with the error, and the field that it has then; None for an error without a field.
BASE = [(value, "BadBase", None) for value in WRONG_BASES]
TAKE = [(value, "BadTake", None) for value in WRONG_TAKES]
TIMES = [(value, "BadTimes", None) for value in WRONG_TIMES]
NO_TRICK = [(value, "BadTrick", None) for value in WRONG_TRICKS]
NO_SUM = [(value, "BadSum", None) for value in WRONG_TRICKS + (TRICK,)]
DIVISOR = [(value, "BadDivisor", None) for value in WRONG_DIVISORS]
SMALL_DIVISOR = [(value, "BadDivisor", None) for value in WRONG_SMALL_DIVISORS]
REST = [(value, "BadRest", None) for value in NO_INTEGERS + (-1, 4, HUGE)]
CHAIN = ([(value, "BadTricks", ("index", None)) for value in NO_ROWS + (TRICK, [TRICK] * 5, (None,) * 5)]
         + [(kind([TRICK, value, None]), "BadTricks", ("index", 1))
            for value in WRONG_TRICKS for kind in (list, tuple)])
WIDE_CHAIN = [(value, "TooWide", ("most", 300)) for value in TOO_WIDE]
PAIRS = ([(value, "BadPairs", ("index", None)) for value in NO_ROWS + ([(1, 1)] * 11, (None,) * 11)]
         + [([(1, 1), value, None], "BadPairs", ("index", 1)) for value in NO_TUPLES + ((1, True), (GREATEST + 1, 1))])


def no_number(*further):
    """What is wrong for a number; further values are beyond its stretch."""
    return [(value, "BadNumber", ("n", value)) for value in WRONG_NUMBERS + further]


def no_tuple(error, fewest, most, right, *further):
    """What is wrong for a tuple of so many integers; further values are no such integers."""
    found = [(value, error, ("index", None)) for value in NO_TUPLES + ((right,) * (most + 1), (None,) * (most + 1))]
    if fewest > 0:
        found.append(((), error, ("index", None)))
    for value in NO_INTEGERS + (HUGE, -HUGE) + further:
        found.append(((right, value, value), error, ("index", 1)))
    return found


NUMBER = no_number()
FROM_NOUGHT = no_number(-1)
MOST = no_number(0, 101)
LENGTH = no_number(0, 41)
FIGURES = no_tuple("BadFigures", 1, 150, 1, -1, 10)
WORD = no_tuple("BadFigures", 0, 150, 1, -1, 10)
FIRST = no_tuple("BadWeights", 0, 12, 1, 10 ** 6 + 1)
LOOP = no_tuple("BadWeights", 1, 12, 1, -10 ** 6 - 1)
RESTS = no_tuple("BadRests", 1, 20, 1, -1, 20)

# Each function, right arguments, and what may be wrong of which argument, in the order in which it is named.
CALLS = (
    (figures, (371, 10), ((0, FROM_NOUGHT), (1, BASE))),
    (number, ((3, 7, 1), 10), ((1, BASE), (0, FIGURES))),
    (Trick, (10, 1, -2), ((0, BASE), (1, TAKE), (2, TIMES))),
    (done, (TRICK, 371), ((0, NO_TRICK), (1, NUMBER))),
    (trail, (TRICK, 371, 2), ((0, NO_TRICK), (1, NUMBER), (2, no_number(-1, 201)))),
    (ahead, (TRICK, 35), ((0, NO_TRICK), (1, NUMBER))),
    (tells, (TRICK, 7), ((0, NO_TRICK), (1, DIVISOR))),
    (fails, (TRICK, 9), ((0, NO_TRICK), (1, DIVISOR))),
    (rest_fails, (TRICK, 9), ((0, NO_TRICK), (1, DIVISOR))),
    (factor, (TRICK, 7), ((0, NO_TRICK), (1, DIVISOR))),
    (multipliers, (10, 1, 7), ((0, BASE), (1, TAKE), (2, DIVISOR))),
    (divisors, (TRICK, 30), ((0, NO_TRICK), (1, MOST))),
    (bound, (TRICK,), ((0, NO_TRICK),)),
    (rings, (TRICK,), ((0, NO_TRICK),)),
    (ring_of, (TRICK, 371), ((0, NO_TRICK), (1, NUMBER))),
    (rounds, (TRICK, 371, 20), ((0, NO_TRICK), (1, NUMBER), (2, FROM_NOUGHT))),
    (Sum, (10, 1, (5,), (1, -1)), ((0, BASE), (1, TAKE), (2, FIRST), (3, LOOP))),
    (total, (SUM, 371), ((0, NO_SUM), (1, FROM_NOUGHT))),
    (sum_tells, (SUM, 7), ((0, NO_SUM), (1, SMALL_DIVISOR))),
    (sum_fails, (SUM, 7), ((0, NO_SUM), (1, SMALL_DIVISOR))),
    (sum_rest_fails, (SUM, 7), ((0, NO_SUM), (1, SMALL_DIVISOR))),
    (rest_weights, (10, 1, 7), ((0, BASE), (1, TAKE), (2, SMALL_DIVISOR))),
    (front_states, (10, FOUR), ((0, BASE), (1, RESTS))),
    (back_states, (10, FOUR), ((0, BASE), (1, RESTS))),
    (front_classes, (10, FOUR), ((0, BASE), (1, RESTS))),
    (front_word, (10, FOUR, 1, 2), ((0, BASE), (1, RESTS), (2, REST), (3, REST))),
    (back_word, (10, FOUR, (2,), (1,)), ((0, BASE), (1, RESTS), (2, WORD), (3, WORD))),
    (slip, (10, 7, 3), ((0, BASE), (1, DIVISOR), (2, LENGTH))),
    (swap, (10, 9, 5, 1), ((0, BASE), (1, DIVISOR), (2, LENGTH), (3, LENGTH))),
    (good_divisors, (10, 5, 20), ((0, BASE), (1, LENGTH), (2, MOST))),
    (chained, ([TRICK, TRICK], 371), ((0, CHAIN), (1, NUMBER))),
    (chain_tells, ([TRICK, TRICK], 7), ((0, CHAIN), (1, SMALL_DIVISOR), (0, WIDE_CHAIN))),
    (chain_fails, ((TRICK, TRICK), 9), ((0, CHAIN), (1, SMALL_DIVISOR), (0, WIDE_CHAIN))),
    (fitting, ([(371, 35), (49, -14)],), ((0, PAIRS),)),
    (Reckoner, (371,), ((0, NUMBER),)),
    (Reckoner(371).step, (TRICK,), ((0, NO_TRICK),)),
    (write, (TRICK,), ((0, NO_TRICK),)),
    (read, ("base 10 take 1 times -2",), ()),
)


def shown(value):
    """A value with the kinds of its parts, so that 1 and True are unlike; tricks and sums by their fields."""
    if isinstance(value, (list, tuple)):
        return (value.__class__, [shown(part) for part in value])
    if isinstance(value, dict):
        return (dict, [(shown(key), shown(part)) for key, part in value.items()])
    if isinstance(value, (Trick, Sum, Reckoner)):
        return (value.__class__, shown(vars(value)))
    return (value.__class__, value)


class Errors(Case):

    def check_refused(self, function, arguments, told):
        """The call raises this error with this field, and does not change its arguments."""
        _, error, field = told
        before = shown(arguments)
        caught = self.refused(getattr(errors, error), function, *arguments)
        self.assertIsInstance(caught, errors.TrickError)
        self.assertEqual(shown(vars(caught)), shown({} if field is None else dict([field])))
        self.assertEqual(shown(arguments), before)

    def test_each_wrong_argument(self):
        for function, right, order in CALLS:
            for index, wrong in order:
                for told in wrong:
                    arguments = right[:index] + (deepcopy(told[0]),) + right[index + 1:]
                    self.check_refused(function, arguments, told)

    def test_first_that_is_named_if_all_further_ones_are_wrong(self):
        for function, right, order in CALLS:
            for at, (index, wrong) in enumerate(order):
                for many, told in enumerate(wrong):
                    arguments = list(right)
                    for later, further in reversed(order[at + 1:]):
                        arguments[later] = deepcopy(further[many % len(further)][0])
                    arguments[index] = deepcopy(told[0])
                    self.check_refused(function, tuple(arguments), told)

    def test_all_functions_and_classes_are_looked_at(self):
        looked_at = {function.__name__ for function, right, order in CALLS}
        self.assertEqual(looked_at - {"step"}, {name for names in INTERFACE.values() for name in names})


class Results(Case):

    def test_equal_calls_give_equal_results_and_change_no_argument(self):
        for function, right, order in CALLS:
            if function.__name__ != "step":
                before = shown(right)
                found = shown(function(*right))
                self.assertEqual(shown(function(*deepcopy(right))), found)
                self.assertEqual(shown(function(*right)), found)
                self.assertEqual(shown(right), before)

    def test_returned_lists_are_new(self):
        many = 0
        for function, right, order in CALLS:
            found = function(*right)
            if isinstance(found, list):
                many += 1
                before = shown(found)
                found.append("further")
                found.reverse()
                self.assertEqual(shown(function(*right)), before, function.__name__)
        self.assertEqual(many, 7)

    def test_results_stay_as_they_were_if_a_list_is_changed_later(self):
        tricks, pairs = [TRICK, TRICK], [(371, 35), (49, -14)]
        found = (chained(tricks, 371), chain_tells(tricks, 7), chain_fails(tricks, 9), fitting(pairs))
        before = deepcopy(found)
        tricks.clear()
        pairs.clear()
        self.assertEqual(found, before)

    def test_no_true_or_false_stands_for_an_integer(self):
        for function, right, order in CALLS:
            if function.__name__ != "step":
                self.assertNotIn("<class 'bool'>", str(shown(function(*right))), function.__name__)


class Package(Case):

    def test_each_is_defined_where_the_interface_lists_it(self):
        for file, names in INTERFACE.items():
            module = importlib.import_module("resttricks." + file)
            for name in names:
                self.assertEqual(getattr(module, name).__module__, "resttricks." + file, name)

    def test_no_clock_no_random_numbers_no_files(self):
        folder = pathlib.Path(resttricks.__file__).parent
        for path in sorted(folder.glob("*.py")):
            for node in ast.walk(ast.parse(path.read_text(encoding="utf-8"))):
                self.assertNotIsInstance(node, ast.Import, path.name)
                if isinstance(node, ast.ImportFrom):
                    self.assertEqual((node.level, node.module.split(".")[0]), (0, "resttricks"), path.name)
                if isinstance(node, ast.Name):
                    self.assertNotIn(node.id, ("open", "input", "print", "hash", "id", "__import__"), path.name)


if __name__ == "__main__":
    unittest.main()
