"""Points 9 and 10, and what point 16 says of them."""

import unittest
from itertools import product

from resttricks.bases import number
from resttricks.errors import BadBase, BadFigures, BadRest, BadRests
from resttricks.machines import back_states, back_word, front_classes, front_states, front_word
from tests.wrong import GREATEST, HUGE, NO_INTEGERS, NO_TUPLES, WRONG_BASES, Case

FOUR = (0, 1, 1, 1)
NO_LABELS = NO_INTEGERS + (20, -1, HUGE, -HUGE)
OF_LABELS = (front_states, back_states, front_classes)


def some_labels():
    """Labels of 1 to 20 rests: unlike ones, equal ones, one for the multiples, and others in between."""
    found = [(0,), (19,), (0, 0), (0, 19), (3, 3, 3), (0, 1, 0, 1), (0, 0, 1, 1), (5, 0, 5, 0, 5, 0), FOUR]
    for d in (2, 3, 5, 6, 7, 8, 9, 10, 12, 16, 19, 20):
        found.append(tuple(range(d)))
        found.append((0,) + (1,) * (d - 1))
        found.append(tuple(rest % 3 for rest in range(d)))
        found.append(tuple(rest * rest % d for rest in range(d)))
    return found + [(4,) * 20, (0,) * 19 + (1,)]


BASES = (2, 3, 6, 7, 10, 16)


def front_word_by_definition(base, labels, one, other):
    """The front word, by the numbers m of the words of each length, which ascend with the words."""
    d = len(labels)
    for length in range(d + 1):
        power = base ** length
        # Further numbers of that length have the rests of these.
        for m in range(min(power, d)):
            if labels[(one * power + m) % d] != labels[(other * power + m) % d]:
                return tuple(m // base ** place % base for place in reversed(range(length)))
    return None


def read_back(base, labels, word):
    """The label behind a word that was read from the last figure on."""
    return labels[sum(figure * base ** place for place, figure in enumerate(word)) % len(labels)]


def back_word_by_definition(base, labels, one, other, most):
    """The back word, if it has at most that many figures, by all words in order."""
    for length in range(most + 1):
        for word in product(range(base), repeat=length):
            if read_back(base, labels, one + word) != read_back(base, labels, other + word):
                return word
    return None


def told_behind(base, labels, n, length):
    """What the labels tell for all further figures, by the rests of their numbers, behind n of that length."""
    return tuple(labels[(n + m * base ** length) % len(labels)] for m in range(len(labels)))


class PrintedExamples(Case):

    def test_first(self):
        self.assertEqual(
            [front_states(10, (0, 1, 1)), front_states(10, FOUR), front_classes(10, FOUR),
             front_word(10, (0, 1, 1), 1, 2), front_word(10, FOUR, 1, 3)],
            [3, 3, (0, 1, 2, 1), (1,), None])

    def test_second(self):
        self.assertEqual(
            [back_states(10, FOUR), back_word(10, FOUR, (2,), (1,)), back_word(10, FOUR, (0,), (1,)),
             back_word(10, FOUR, (1,), (3,)), back_states(10, (0,))],
            [5, (1,), (), None, 1])


class Front(Case):

    def test_classes_and_words_by_definition(self):
        for base in BASES:
            for labels in some_labels():
                found = front_classes(base, labels)
                self.assertIs(found.__class__, tuple)
                self.assertEqual(len(found), len(labels))
                for one in range(len(labels)):
                    for other in range(len(labels)):
                        word = front_word(base, labels, one, other)
                        self.assertEqual(word, front_word_by_definition(base, labels, one, other),
                                         (base, labels, one, other))
                        self.assertEqual(found[one] == found[other], word is None)

    def test_classes_are_numbered_by_their_first_rests(self):
        for base in range(2, 17):
            for labels in some_labels():
                found = front_classes(base, labels)
                firsts = [found.index(told) for told in range(max(found) + 1)]
                self.assertEqual(firsts, sorted(firsts))
                self.assertEqual(firsts[0], 0)

    def test_states(self):
        for base in range(2, 17):
            for labels in some_labels():
                states = front_states(base, labels)
                self.assertEqual(states, len(set(front_classes(base, labels))))
                self.assertTrue(1 <= states <= len(labels))

    def test_unlike_labels_do_not_fall_together(self):
        for base in range(2, 17):
            for labels in some_labels():
                found = front_classes(base, labels)
                for one, other in product(range(len(labels)), repeat=2):
                    if labels[one] != labels[other]:
                        self.assertNotEqual(found[one], found[other])

    def test_words_lead_to_unlike_labels(self):
        for base, labels in ((2, (0,) * 19 + (1,)), (3, (0,) + (1,) * 19), (10, (0, 1, 1, 1, 1, 1, 1, 0))):
            for one, other in product(range(len(labels)), repeat=2):
                word = front_word(base, labels, one, other)
                if word is not None:
                    behind = [labels[(n * base ** len(word) + (number(word, base) if word else 0)) % len(labels)]
                              for n in (one, other)]
                    self.assertNotEqual(behind[0], behind[1])

    def test_edges(self):
        for base in (2, 16):
            self.assertEqual([front_states(base, (7,)), front_classes(base, (7,)), front_word(base, (7,), 0, 0)],
                             [1, (0,), None])
            self.assertEqual(front_classes(base, (0,) * 20), (0,) * 20)
            self.assertEqual(front_classes(base, tuple(range(20))), tuple(range(20)))
            self.assertEqual(front_word(base, tuple(range(20)), 0, 19), ())
            self.assertIsNone(front_word(base, tuple(range(20)), 19, 19))
        self.assertEqual(front_states(2, (0,) + (1,) * 15), 5)
        self.assertEqual(front_classes(2, (0, 1, 1, 1, 1, 1, 1, 1)), (0, 1, 2, 1, 3, 1, 2, 1))
        self.assertEqual(front_states(16, (0,) + (1,) * 15), 2)
        self.assertEqual(front_states(2, (0,) + (1,) * 18), 19)

    def test_longer_words(self):
        # 3 becomes 7 behind a 1, where 1 becomes 3; 1 needs one 1 more. 0 and 4 become equal behind any figure.
        eight = (0, 0, 0, 0, 0, 0, 0, 1)
        self.assertEqual([front_word(2, eight, 7, 3), front_word(2, eight, 3, 1), front_word(2, eight, 1, 0)],
                         [(), (1,), (1, 1)])
        self.assertIsNone(front_word(2, eight, 0, 4))


class Back(Case):

    def test_states_by_definition(self):
        for base in range(2, 17):
            for labels in some_labels():
                d = len(labels)
                unlike = {told_behind(base, labels, n, length)
                          for length in range(30) for n in range(min(base ** length, d))}
                self.assertEqual(back_states(base, labels), len(unlike), (base, labels))

    def test_words_by_definition(self):
        for base, most in ((2, 6), (3, 4), (10, 2), (16, 2)):
            words = [()] + [(figure,) for figure in range(min(base, 4))] + [(1, 0), (0, 1), (1, 1, 1), (base - 1,) * 5]
            for labels in (FOUR, (0, 1, 1), (0, 1, 0, 1), (0,), tuple(range(7)), (0, 0, 1, 2, 1, 0), (0,) * 7 + (1,)):
                for one, other in product(words, repeat=2):
                    found = back_word(base, labels, one, other)
                    by_definition = back_word_by_definition(base, labels, one, other, most)
                    if by_definition is not None or found is None:
                        self.assertEqual(found, by_definition, (base, labels, one, other))
                    else:
                        self.assertGreater(len(found), most)

    def test_none_just_if_all_further_figures_tell_the_same(self):
        for base in BASES:
            words = [(), (0,), (1,), (0, 0, 1), (1, 0, 1), (1, 1), (base - 1,) * 7, (0,) * 150, (1,) * 150]
            for labels in some_labels():
                for one, other in product(words, repeat=2):
                    word = back_word(base, labels, one, other)
                    behind = [told_behind(base, labels, sum(f * base ** k for k, f in enumerate(read)), len(read))
                              for read in (one, other)]
                    self.assertEqual(word is None, behind[0] == behind[1], (base, labels, one, other))
                    if word is not None:
                        self.assertIs(word.__class__, tuple)
                        self.assertNotEqual(read_back(base, labels, one + word), read_back(base, labels, other + word))

    def test_order_of_the_figures(self):
        # Read from the last figure on, (1, 0) is 01, and (0, 1) is 10.
        labels = tuple(range(20))
        self.assertEqual(back_word(10, labels, (1, 0), (1,)), (1,))
        self.assertEqual(back_word(10, labels, (0, 1), (1,)), ())
        self.assertEqual(back_word(10, labels, (2, 0, 3), (2, 0, 5)), None)
        # (0, 1) is the number 2, which has another label than 0.
        self.assertEqual(back_word(2, (0, 0, 1, 0), (0, 1), (0,)), ())
        # A further 1 makes 1000 of (0, 0, 0) and 100 of (0, 0), of which only the first one is a multiple of 8.
        self.assertEqual(back_word(2, (0, 1, 1, 1, 1, 1, 1, 1), (0, 0, 0), (0, 0)), (1,))
        self.assertEqual(back_word(2, (0, 1, 1, 1, 1, 1, 1, 1), (0, 0), (0,)), (0, 1))
        self.assertEqual(back_word(2, (0, 0, 0, 0, 1, 0, 0, 0), (0,), ()), (0, 1))

    def test_edges(self):
        for base in (2, 16):
            self.assertEqual([back_states(base, (7,)), back_word(base, (7,), (), (1,) * 150)], [1, None])
            self.assertEqual(back_states(base, (19,) * 20), 1)
        self.assertEqual(back_states(2, tuple(range(19))), 18 * 19)
        self.assertEqual(back_states(16, tuple(range(16))), 17)
        self.assertEqual(back_states(16, tuple(range(15))), 15)
        self.assertEqual(back_word(2, (0, 1), (), ()), None)
        self.assertEqual(back_word(2, (0, 1), (), (0,)), (1,))
        self.assertEqual(back_word(10, (0, 1, 2), (1,) * 150, (1,) * 149), ())
        self.assertEqual(back_word(10, (0, 1, 2), (1,) * 150, (1,) * 147), None)

    def test_noughts_ahead_change_no_label(self):
        for labels in some_labels():
            for word in ((), (1,), (1, 0, 1)):
                self.assertNotEqual(back_word(2, labels, word, word + (0,)), ())


class WrongArguments(Case):

    def calls(self):
        """All functions, with further arguments that are right for 4 rests."""
        return [(function, ()) for function in OF_LABELS] + [(front_word, (1, 3)), (back_word, ((1,), ()))]

    def test_equal_calls_give_equal_results(self):
        for function, further in self.calls():
            self.assertEqual(function(10, FOUR, *further), function(10, FOUR, *further))

    def test_no_base(self):
        for function, further in self.calls():
            for base in WRONG_BASES:
                for labels in (FOUR, (), None, (20,)):
                    self.refused(BadBase, function, base, labels, *further)
        for base in WRONG_BASES:
            self.refused(BadBase, front_word, base, None, -1, None)
            self.refused(BadBase, back_word, base, None, (-1,), None)

    def test_no_tuple_of_so_many_things(self):
        for function, further in self.calls():
            for labels in NO_TUPLES + ((), (0,) * 21, (None,) * 21):
                self.assertIsNone(self.refused(BadRests, function, 10, labels, *further).index)

    def test_no_label(self):
        for function, further in self.calls():
            for value in NO_LABELS:
                self.assertEqual(self.refused(BadRests, function, 10, (value,), *further).index, 0)
                self.assertEqual(self.refused(BadRests, function, 10, (0, 19, value, value), *further).index, 2)
                self.assertEqual(self.refused(BadRests, function, 10, (0,) * 19 + (value,), *further).index, 19)

    def test_labels_before_what_comes_behind_them(self):
        for labels in NO_TUPLES + ((), (True,), (0,) * 21):
            for value in NO_LABELS:
                self.refused(BadRests, front_word, 10, labels, value, 0)
                self.refused(BadRests, front_word, 10, labels, 0, value)
                self.refused(BadRests, back_word, 10, labels, (value,), (0,))
                self.refused(BadRests, back_word, 10, labels, (0,), (value,))

    def test_no_rest(self):
        for value in NO_INTEGERS + (-1, 4, 19, 20, GREATEST, HUGE, -HUGE):
            for other in (0, 3, None, value):
                self.refused(BadRest, front_word, 10, FOUR, value, other)
                self.refused(BadRest, front_word, 10, FOUR, other, value)
        self.refused(BadRest, front_word, 10, (0,), 0, 1)
        self.assertIsNone(front_word(10, (0,) * 20, 19, 0))
        self.refused(BadRest, front_word, 10, (0,) * 20, 20, 0)

    def test_no_tuple_of_so_many_figures(self):
        for value in NO_TUPLES + ((0,) * 151, (None,) * 151):
            for other in ((), (1,) * 150, None, (None,), value):
                self.assertIsNone(self.refused(BadFigures, back_word, 10, FOUR, value, other).index)
            for one in ((), (1,) * 150):
                self.assertIsNone(self.refused(BadFigures, back_word, 10, FOUR, one, value).index)

    def test_no_figure(self):
        for value in NO_INTEGERS + (-1, 10, 16, GREATEST):
            for other in ((), (value, value), None, (0,) * 151):
                self.assertEqual(self.refused(BadFigures, back_word, 10, FOUR, (0, value, value), other).index, 1)
            for one in ((), (9,) * 150):
                self.assertEqual(self.refused(BadFigures, back_word, 10, FOUR, one, (value, 1)).index, 0)
                found = self.refused(BadFigures, back_word, 10, FOUR, one, (1,) * 149 + (value,))
                self.assertEqual(found.index, 149)

    def test_figures_depend_on_the_base(self):
        for base in range(2, 17):
            back_word(base, FOUR, (base - 1,), (base - 1,))
            self.assertEqual(self.refused(BadFigures, back_word, base, FOUR, (base - 1, base), ()).index, 1)


if __name__ == "__main__":
    unittest.main()
