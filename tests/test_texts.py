"""Point 15: tricks as texts."""

import unittest

from resttricks.errors import BadTrick, InvalidText
from resttricks.texts import read, write
from resttricks.tricks import Trick
from tests.wrong import HUGE, WRONG_TRICKS, Case

WORDS = ("base", "10", "take", "1", "times", "-2")
# Blanks that are no spaces, and other signs that do not part words.
OTHER_BLANKS = ("\t", "\n", "\r", "\v", "\f", "\u00a0", "\u2003", "\u3000", "\x1c", "\x00", ",")
LONG = "1" * 6000
# Not as Python writes them: for 10, 1 and -2 at the places of the numbers, and for none of all.
OTHER_FORMS = {
    1: ("010", "+10", "1_0", "10.0", "1e1", "0xa", "0b1010", "\uff11\uff10", "\u0661\u0660", "ten", "10,", "'10'"),
    3: ("01", "+1", "1.", "1.0", "0x1", "\u00b9", "\uff11", "one", "True", "1_", "_1"),
    5: ("-02", "--2", "-2.0", "-2_", "+-2", "\u22122", "\u20132", "-\uff12", "2-", "-", "~1", "(-2)"),
}
BEYOND = {
    1: ("-10", "0", "1", "17", "18", "100", LONG, "-" + LONG),
    3: ("0", "3", "-1", "-2", "10", LONG),
    5: ("101", "-101", "1000", "-0", "00", LONG, "-" + LONG),
}
NO_NUMBERS = ("base", "take", "times", "x", "None", "True", "0x", "e", ".", "\ud800")


class Write(Case):

    def test_printed_example(self):
        self.assertEqual([write(Trick(10, 1, -2)), read("base 10 take 1 times -2") == Trick(10, 1, -2)],
                         ["base 10 take 1 times -2", True])

    def test_all_and_back(self):
        for base in range(2, 17):
            for take in (1, 2):
                for times in range(-100, 101):
                    trick = Trick(base, take, times)
                    text = write(trick)
                    self.assertEqual(text, "base " + str(base) + " take " + str(take) + " times " + str(times))
                    self.assertIs(read(text).__class__, Trick)
                    self.assertEqual(read(text), trick)

    def test_edges(self):
        self.assertEqual([write(Trick(2, 1, -100)), write(Trick(16, 2, 100)), write(Trick(3, 2, 0))],
                         ["base 2 take 1 times -100", "base 16 take 2 times 100", "base 3 take 2 times 0"])

    def test_no_trick(self):
        for trick in WRONG_TRICKS + (Trick, HUGE):
            self.refused(BadTrick, write, trick)


class Read(Case):

    def refused_at(self, text):
        """The word at which the text is refused."""
        return self.refused(InvalidText, read, text).word

    def test_printed_example(self):
        self.assertEqual(self.refused_at("base 10 take 3 times 1"), 4)

    def test_spaces_at_the_ends_and_between_words(self):
        for many in (1, 2, 9):
            wide = (" " * many).join(WORDS)
            for ahead in ("", " ", "     "):
                for behind in ("", " ", "   "):
                    self.assertEqual(read(ahead + wide + behind), Trick(10, 1, -2))
        self.assertEqual(read(" base  2   take 2 times      0 "), Trick(2, 2, 0))

    def test_words_that_no_space_parts(self):
        self.assertEqual([self.refused_at(text) for text in
                          ("base10 take 1 times -2", "base 10take 1 times -2", "base 10 take1 times -2",
                           "base 10 take 1times -2", "base 10 take 1 times-2", "base 10 take 1 times - 2")],
                         [1, 2, 3, 4, 5, 6])

    def test_empty_and_spaces_alone(self):
        for many in (0, 1, 2, 50):
            self.assertEqual(self.refused_at(" " * many), 1)

    def test_too_short_by_any_number_of_words(self):
        for many in range(6):
            text = " ".join(WORDS[:many])
            for spaced in (text, "  " + text, text + "   "):
                self.assertEqual(self.refused_at(spaced), many + 1)

    def test_a_seventh_word(self):
        for further in ("x", "-2", "base", "times 3", "1 2 3 4", "\n", "base 10 take 1 times -2"):
            self.assertEqual(self.refused_at(" ".join(WORDS) + " " + further), 7)
            self.assertEqual(self.refused_at("  " + "   ".join(WORDS) + "  " + further + " "), 7)

    def test_first_word_that_cannot_stand(self):
        for place in range(6):
            for value in ("x", "Base", "BASE", "\ud800", "bases", "99999"):
                words = WORDS[:place] + (value,) + WORDS[place + 1:]
                self.assertEqual(self.refused_at(" ".join(words)), place + 1)
                # Also where the text ends there, where it has further words, and where all of these are wrong.
                self.assertEqual(self.refused_at(" ".join(words[:place + 1])), place + 1)
                self.assertEqual(self.refused_at(" ".join(words + ("y", "z"))), place + 1)
                self.assertEqual(self.refused_at(" ".join(words[:place + 1] + ("y",) * 9)), place + 1)

    def test_words_at_each_others_places(self):
        for place in range(6):
            for other in range(6):
                if WORDS[place] != WORDS[other] and (place, other) not in ((5, 1), (5, 3)):
                    words = WORDS[:place] + (WORDS[other],) + WORDS[place + 1:]
                    self.assertEqual(self.refused_at(" ".join(words)), place + 1)
        self.assertEqual(self.refused_at("take 1 base 10 times -2"), 1)
        self.assertEqual(self.refused_at("base 10 times -2 take 1"), 3)
        self.assertEqual(self.refused_at("10 1 -2"), 1)

    def test_numbers_not_as_python_writes_them(self):
        for told in (OTHER_FORMS, BEYOND):
            for place, values in told.items():
                for value in values:
                    words = WORDS[:place] + (value,) + WORDS[place + 1:]
                    self.assertEqual(self.refused_at(" ".join(words)), place + 1, words)
        for place in (1, 3, 5):
            for value in NO_NUMBERS:
                words = WORDS[:place] + (value,) + WORDS[place + 1:]
                self.assertEqual(self.refused_at(" ".join(words)), place + 1, words)

    def test_all_short_numbers(self):
        for n in range(-1200, 1201):
            for place, low, high in ((1, 2, 16), (3, 1, 2), (5, -100, 100)):
                text = " ".join(WORDS[:place] + (str(n),) + WORDS[place + 1:])
                if low <= n <= high:
                    self.assertEqual(write(read(text)), text)
                else:
                    self.assertEqual(self.refused_at(text), place + 1)

    def test_other_blanks_are_parts_of_words(self):
        for blank in OTHER_BLANKS:
            self.assertEqual(self.refused_at(blank.join(WORDS)), 1)
            self.assertEqual(self.refused_at(blank + " ".join(WORDS)), 1)
            self.assertEqual(self.refused_at(" ".join(WORDS) + blank), 6)
            self.assertEqual(self.refused_at(" ".join(WORDS) + " " + blank), 7)
            self.assertEqual(self.refused_at("base 10" + blank + "take 1 times -2"), 2)
            self.assertEqual(self.refused_at("base 10 take" + blank + " 1 times -2"), 3)

    def test_equal_calls_give_equal_results(self):
        self.assertEqual(read(" base 10 take 1 times 7"), read("base 10  take 1 times 7 "))
        self.assertIsNot(read("base 10 take 1 times 7"), None)


if __name__ == "__main__":
    unittest.main()
