"""The errors of the package."""


class TwowaysError(ValueError):
    """The base class of all errors of the package."""


class InvalidLetter(TwowaysError):
    """A letter of a word is not one of the letters."""

    def __init__(self, place):
        super().__init__(f"the letter at place {place} is not one of the letters")
        self.place = place


class InvalidLine(TwowaysError):
    """A line of a written machine cannot be read."""

    def __init__(self, number):
        super().__init__(f"line {number} cannot be read")
        self.number = number


class InvalidMachine(TwowaysError):
    """A machine is not valid."""

    def __init__(self, word):
        super().__init__(f"the machine is not valid: {word}")
        self.word = word


class WordTooLong(TwowaysError):
    """A word would have more than 200 letters."""


class TooManyValues(TwowaysError):
    """A reader would have too many values."""


class TooManySteps(TwowaysError):
    """A machine would have too many steps."""


class TooManyLines(TwowaysError):
    """A sentence would have too many lines."""


class OutsideWord(TwowaysError):
    """Places do not lie in the word."""


class TooManyEdits(TwowaysError):
    """There are 100 edits that can be undone."""
