"""All errors that the package raises, each directly under TrickError.

The messages never show the wrong value itself: Python refuses to write out integers of several thousand figures.
"""


class TrickError(ValueError):
    """The base class of all errors of the package."""


class BadBase(TrickError):
    """A value that is no base."""


class BadTake(TrickError):
    """A value that is neither 1 nor 2."""


class BadTimes(TrickError):
    """A value that a trick cannot multiply by."""


class BadTrick(TrickError):
    """A value that is no Trick."""


class BadNumber(TrickError):
    """A value n that is no number, or none in the stretch that is asked for."""

    def __init__(self, n):
        super().__init__("no number, or none in the stretch that is asked for")
        self.n = n


class BadDivisor(TrickError):
    """A value that is no divisor."""


class BadFigures(TrickError):
    """No tuple of so many figures (index None), or no figure at the index."""

    def __init__(self, index):
        super().__init__(f"wrong figures, index: {index}")
        self.index = index


class BadWeights(TrickError):
    """No tuple of so many weights (index None), or no weight at the index."""

    def __init__(self, index):
        super().__init__(f"wrong weights, index: {index}")
        self.index = index


class BadSum(TrickError):
    """A value that is no Sum."""


class BadRests(TrickError):
    """No tuple of so many labels (index None), or no label at the index."""

    def __init__(self, index):
        super().__init__(f"wrong labels of rests, index: {index}")
        self.index = index


class BadRest(TrickError):
    """A value that is no rest."""


class BadTricks(TrickError):
    """No list or tuple of so many tricks (index None), or no Trick at the index."""

    def __init__(self, index):
        super().__init__(f"wrong tricks, index: {index}")
        self.index = index


class BadPairs(TrickError):
    """No list or tuple of so many pairs (index None), or no pair of numbers at the index."""

    def __init__(self, index):
        super().__init__(f"wrong pairs, index: {index}")
        self.index = index


class TooWide(TrickError):
    """The product of the blocks is greater than most."""

    def __init__(self, most):
        super().__init__(f"the product of the blocks is greater than {most}")
        self.most = most


class InvalidText(TrickError):
    """The word of that number, counted from 1, is the first one that cannot stand in the text."""

    def __init__(self, word):
        super().__init__(f"wrong text, word: {word}")
        self.word = word
