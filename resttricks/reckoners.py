"""A number to which tricks are done, and taken back (point 14)."""

from resttricks.limits import check_number
from resttricks.tricks import check_trick, made_of


class Reckoner:
    """A number, and the tricks that were done to it, of which the last one can be taken back."""

    def __init__(self, n):
        check_number(n)
        # The number at the beginning, and those behind each of the tricks.
        self._numbers = [n]
        self._tricks = []

    @property
    def now(self):
        """The number behind all tricks that were done and not taken back."""
        return self._numbers[-1]

    @property
    def tricks(self):
        """The tuple of the tricks that were done and not taken back."""
        return tuple(self._tricks)

    def step(self, trick):
        """Do a trick; the number behind it."""
        check_trick(trick)
        later = made_of(trick, self.now)
        self._numbers.append(later)
        self._tricks.append(trick)
        return later

    def undo(self):
        """Take the last trick back; whether there was one."""
        if not self._tricks:
            return False
        self._numbers.pop()
        self._tricks.pop()
        return True

    def copy(self):
        """An independent reckoner that stands as this one."""
        other = Reckoner(self._numbers[0])
        other._numbers = list(self._numbers)
        other._tricks = list(self._tricks)
        return other

    def __len__(self):
        return len(self._tricks)
