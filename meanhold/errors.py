"""The errors that the program raises."""


class GainError(ValueError):
    """The base class of all errors of the program."""


class BadSize(GainError):
    """There are too few or too many places or branches."""


class BadNumber(GainError):
    """A gain or a chance is not a short number."""


class BadKind(GainError):
    """A place is of no kind that there is."""


class BadChance(GainError):
    """A chance is not greater than 0, or the chances of a draw do not have the sum 1."""


class BadTarget(GainError):
    """What should name a place of the game does not."""


class NoBranch(GainError):
    """The number at the position `at` is no number of a branch."""

    def __init__(self, at):
        self.at = at


class NoCircle(GainError):
    """A list of branches is empty or does not lead back to where it begins."""


class NotRight(GainError):
    """An answer is not right."""


class NothingToUndo(GainError):
    """No step is booked."""


class NothingToRedo(GainError):
    """No step is taken back."""


class BadEntry(GainError):
    """The entry at the position `place` of a journal cannot be done."""

    def __init__(self, place):
        self.place = place
