"""Point 2: numbers and their figures."""

import unittest

from resttricks.bases import figures, number
from resttricks.errors import BadBase, BadFigures
from tests.wrong import GREATEST, NO_INTEGERS, WRONG_BASES, WRONG_NUMBERS, Case

SIGNS = "0123456789abcdef"


def some_numbers(base):
    """Numbers from 0 on, those around the powers of the base among them."""
    found = list(range(600)) + [GREATEST, GREATEST - 1, 123456789 ** 4]
    power = 1
    while power <= GREATEST:
        found += [power - 1, power, power + 1]
        power *= base
    return [n for n in found if 0 <= n <= GREATEST]


class Figures(Case):

    def test_printed_examples(self):
        self.assertEqual(
            [figures(371, 10), figures(0, 2), figures(255, 16), number((3, 7, 1), 10), number((0, 0, 1), 2)],
            [(3, 7, 1), (0,), (15, 15), 371, 1])

    def test_as_python_writes_them(self):
        for base, form in ((2, "b"), (8, "o"), (10, "d"), (16, "x")):
            for n in some_numbers(base):
                self.assertEqual(figures(n, base), tuple(SIGNS.index(sign) for sign in format(n, form)))

    def test_all_bases_against_the_definition(self):
        for base in range(2, 17):
            for n in some_numbers(base):
                told = figures(n, base)
                self.assertIs(told.__class__, tuple)
                self.assertTrue(all(figure.__class__ is int and 0 <= figure < base for figure in told))
                self.assertTrue(told[0] != 0 or told == (0,))
                self.assertEqual(sum(figure * base ** place for place, figure in enumerate(told[::-1])), n)

    def test_nought_in_all_bases(self):
        for base in range(2, 17):
            self.assertEqual(figures(0, base), (0,))

    def test_greatest_number(self):
        self.assertEqual(figures(GREATEST, 10), (1,) + (0,) * 40)
        self.assertEqual(len(figures(GREATEST, 2)), 133)
        self.assertEqual(len(figures(GREATEST, 16)), 34)

    def test_equal_calls_give_equal_results(self):
        self.assertEqual([figures(371, 10) for _ in range(3)], [(3, 7, 1)] * 3)


class WrongFigures(Case):

    def test_no_number_from_nought_on(self):
        for value in WRONG_NUMBERS + (-1, -371, -GREATEST):
            self.refused_number(value, figures, value, 10)

    def test_no_base(self):
        for value in WRONG_BASES:
            for n in (0, 371, GREATEST):
                self.refused(BadBase, figures, n, value)

    def test_number_before_base(self):
        for value in WRONG_NUMBERS + (-1,):
            for base in WRONG_BASES:
                self.refused_number(value, figures, value, base)

    def test_a_value_is_not_changed(self):
        value = [1, [2]]
        self.refused_number([1, [2]], figures, value, 10)
        self.assertEqual(value, [1, [2]])


class Number(Case):

    def test_there_and_back(self):
        for base in range(2, 17):
            for n in some_numbers(base):
                self.assertEqual(number(figures(n, base), base), n)
                self.assertEqual(number((0, 0) + figures(n, base), base), n)

    def test_single_figures(self):
        for base in range(2, 17):
            self.assertEqual([number((figure,), base) for figure in range(base)], list(range(base)))

    def test_noughts_ahead(self):
        self.assertEqual(number((0,) * 149 + (1,), 7), 1)
        self.assertEqual(number((0,) * 150, 7), 0)
        self.assertEqual(number((0, 0, 0, 3, 7, 1), 10), 371)

    def test_150_figures(self):
        for base in range(2, 17):
            self.assertEqual(number((base - 1,) * 150, base), base ** 150 - 1)
            self.assertEqual(number((1,) + (0,) * 149, base), base ** 149)


class WrongTold(Case):

    def test_no_base(self):
        for base in WRONG_BASES:
            self.refused(BadBase, number, (1, 0), base)

    def test_base_before_figures(self):
        for base in WRONG_BASES:
            for told in NO_INTEGERS + ((1,) * 151, (None,), (1, 99)):
                self.refused(BadBase, number, told, base)

    def test_no_tuple_of_so_many_things(self):
        for told in (None, True, 371, "371", "", [3, 7, 1], {0: 1}, (), (0,) * 151, (None,) * 151, [], {}):
            self.assertIsNone(self.refused(BadFigures, number, told, 10).index)

    def test_first_that_is_no_figure(self):
        for value in NO_INTEGERS + (-1, 10, 16, GREATEST):
            self.assertEqual(self.refused(BadFigures, number, (value,), 10).index, 0)
            self.assertEqual(self.refused(BadFigures, number, (0, 9, value, 1, value), 10).index, 2)
            self.assertEqual(self.refused(BadFigures, number, (1,) * 149 + (value,), 10).index, 149)

    def test_figures_depend_on_the_base(self):
        for base in range(2, 17):
            self.assertEqual(number((base - 1,), base), base - 1)
            self.assertEqual(self.refused(BadFigures, number, (base - 1, base), base).index, 1)


if __name__ == "__main__":
    unittest.main()
