"""Point 14: a reckoner."""

import unittest

from resttricks.errors import BadTrick
from resttricks.reckoners import Reckoner
from resttricks.tricks import Trick, done
from tests.wrong import GREATEST, WRONG_NUMBERS, WRONG_TRICKS, Case

ONE = Trick(10, 1, -2)
TWO = Trick(16, 2, 100)
THREE = Trick(2, 1, -100)
SOME_NUMBERS = (-GREATEST, 1 - GREATEST, -371, -1, 0, 1, 371, GREATEST - 1, GREATEST)


class Standing(Case):
    """A test case that can look at how a reckoner stands."""

    def check(self, reckoner, now, tricks):
        """The reckoner stands so."""
        self.assertEqual(reckoner.now, now)
        self.assertIs(reckoner.tricks.__class__, tuple)
        self.assertEqual(reckoner.tricks, tuple(tricks))
        self.assertEqual(len(reckoner), len(tricks))


class Reckoners(Standing):

    def test_printed_example(self):
        reckoner = Reckoner(371)
        self.assertEqual(
            [reckoner.step(Trick(10, 1, -2)), reckoner.step(Trick(10, 1, -2)), reckoner.undo(), reckoner.now,
             len(reckoner), reckoner.tricks == (Trick(10, 1, -2),)],
            [35, -7, True, 35, 1, True])

    def test_beginning(self):
        for n in SOME_NUMBERS:
            self.check(Reckoner(n), n, ())

    def test_no_number(self):
        for n in WRONG_NUMBERS:
            self.refused_number(n, Reckoner, n)

    def test_steps_and_back(self):
        tricks = [ONE, TWO, THREE, THREE, ONE, Trick(3, 2, 0), Trick(7, 1, 55)] * 6
        for n in SOME_NUMBERS:
            reckoner = Reckoner(n)
            numbers = [n]
            for many, trick in enumerate(tricks):
                numbers.append(done(trick, numbers[-1]))
                self.assertEqual(reckoner.step(trick), numbers[-1])
                self.check(reckoner, numbers[-1], tricks[:many + 1])
            for many in reversed(range(len(tricks))):
                self.assertIs(reckoner.undo(), True)
                self.check(reckoner, numbers[many], tricks[:many])
            self.assertIs(reckoner.undo(), False)
            self.check(reckoner, n, ())

    def test_undo_of_what_has_done_nothing(self):
        reckoner = Reckoner(371)
        for _ in range(3):
            self.assertIs(reckoner.undo(), False)
            self.check(reckoner, 371, ())
        self.assertEqual(reckoner.step(ONE), 35)
        self.check(reckoner, 35, (ONE,))

    def test_steps_behind_undo(self):
        reckoner = Reckoner(371)
        reckoner.step(TWO)
        reckoner.step(ONE)
        reckoner.undo()
        reckoner.undo()
        self.assertEqual(reckoner.step(ONE), 35)
        self.check(reckoner, 35, (ONE,))

    def test_steps_that_change_no_number_count(self):
        reckoner = Reckoner(0)
        for many in range(1, 6):
            self.assertEqual(reckoner.step(ONE), 0)
            self.check(reckoner, 0, (ONE,) * many)
        self.assertIs(reckoner.undo(), True)
        self.check(reckoner, 0, (ONE,) * 4)

    def test_no_trick_changes_nothing(self):
        for steps in ((), (ONE,), (ONE, TWO)):
            reckoner = Reckoner(371)
            for trick in steps:
                reckoner.step(trick)
            now = reckoner.now
            for trick in WRONG_TRICKS + (Trick, reckoner):
                self.refused(BadTrick, reckoner.step, trick)
                self.check(reckoner, now, steps)
            self.assertEqual(reckoner.step(ONE), done(ONE, now))

    def test_properties_cannot_be_assigned(self):
        for name in ("now", "tricks"):
            self.assertIs(Reckoner.__dict__[name].__class__, property)
            with self.assertRaises(AttributeError):
                setattr(Reckoner(371), name, ())

    def test_methods_are_its_own(self):
        for name in ("step", "undo", "copy", "__len__"):
            self.assertIn(name, Reckoner.__dict__)

    def test_tricks_that_were_read_stay(self):
        reckoner = Reckoner(371)
        reckoner.step(ONE)
        tricks = reckoner.tricks
        reckoner.step(TWO)
        self.assertEqual(tricks, (ONE,))
        reckoner.undo()
        reckoner.undo()
        self.assertEqual([tricks, reckoner.tricks], [(ONE,), ()])

    def test_two_reckoners_do_not_touch_each_other(self):
        one, other = Reckoner(371), Reckoner(371)
        one.step(ONE)
        self.check(other, 371, ())
        other.step(TWO)
        self.check(one, 35, (ONE,))


def standing():
    """A reckoner that has done two tricks and taken back a third one."""
    reckoner = Reckoner(371)
    for trick in (ONE, TWO, THREE):
        reckoner.step(trick)
    reckoner.undo()
    return reckoner


class Copies(Standing):

    def test_stands_as_the_first_one(self):
        for reckoner in (Reckoner(371), Reckoner(-GREATEST), standing()):
            other = reckoner.copy()
            self.assertIs(other.__class__, Reckoner)
            self.assertIsNot(other, reckoner)
            self.check(other, reckoner.now, reckoner.tricks)

    def test_goes_on_while_the_first_one_does_not(self):
        reckoner = standing()
        other = reckoner.copy()
        self.assertEqual(other.step(ONE), done(ONE, reckoner.now))
        self.check(other, done(ONE, 3500), (ONE, TWO, ONE))
        self.check(reckoner, 3500, (ONE, TWO))
        for _ in range(4):
            other.undo()
        self.check(other, 371, ())
        self.check(reckoner, 3500, (ONE, TWO))

    def test_stays_while_the_first_one_goes_on(self):
        reckoner = standing()
        other = reckoner.copy()
        reckoner.undo()
        reckoner.undo()
        reckoner.step(THREE)
        self.check(other, 3500, (ONE, TWO))
        self.check(reckoner, done(THREE, 371), (THREE,))

    def test_takes_all_back(self):
        other = standing().copy()
        self.assertEqual([(other.undo(), other.now) for _ in range(3)], [(True, 35), (True, 371), (False, 371)])

    def test_copy_of_a_copy(self):
        one = standing()
        two = one.copy()
        two.step(ONE)
        three = two.copy()
        three.undo()
        three.undo()
        self.check(one, 3500, (ONE, TWO))
        self.check(two, done(ONE, 3500), (ONE, TWO, ONE))
        self.check(three, 35, (ONE,))

    def test_copying_changes_nothing(self):
        reckoner = standing()
        for _ in range(3):
            reckoner.copy()
            self.check(reckoner, 3500, (ONE, TWO))


if __name__ == "__main__":
    unittest.main()
