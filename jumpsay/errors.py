"""What is refused, a class of errors for each kind of refusal."""


class JumpError(ValueError):
    """Any refusal."""


class BadCondition(JumpError):
    """A tuple is no condition."""


class BadWorths(JumpError):
    """A tuple of numbers is not eight numbers 0 or 1."""


class BadTurns(JumpError):
    """A list of numbers is not a 0 or 1 for each pair of a condition."""


class BadEnd(JumpError):
    """The end that is to be first is neither 1 nor 0."""


class BadCode(JumpError):
    """A list of tuples is no code: the row at `place` is the first that cannot be."""

    def __init__(self, place):
        super().__init__(f"no code: row {place} cannot be")
        self.place = place


class BadChances(JumpError):
    """A tuple of numbers is not eight numbers from 0 to 100."""


class TooMany(JumpError):
    """A condition has too many pairs to try all their turns."""


class BadText(JumpError):
    """A text writes no condition: it goes wrong with the sign at `place`."""

    def __init__(self, place):
        super().__init__(f"no condition: the text goes wrong at {place}")
        self.place = place
