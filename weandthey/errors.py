"""The errors of the package.

Python itself keeps what an error is constructed from as its message; so no
class here passes anything on to its base.
"""


class PlayError(ValueError):
    """The base of all errors here but NoPlace and NoVersion."""


class BadText(PlayError):
    """A value is not the text of a program."""

    def __init__(self, line):
        self.line = line


class BadProgram(PlayError):
    """A value is not a program; error is what program_error returns for it."""

    def __init__(self, error):
        self.error = error


class BadGift(PlayError):
    """A value is not a gift of the program."""

    def __init__(self, value):
        self.value = value


class BadNumber(PlayError):
    """A value is not an integer."""

    def __init__(self, number):
        self.number = number


class BadTurns(PlayError):
    """A value is not a tuple of integers 0 and 1."""

    def __init__(self, turns):
        self.turns = turns


class BadRows(PlayError):
    """A value is not a tuple of rows; index is that of the first other item."""

    def __init__(self, index):
        self.index = index


class NotParted(PlayError):
    """Some integer is in no row or in several."""


class NotTheirs(PlayError):
    """The statement at a place is not a choice of theirs."""

    def __init__(self, place):
        self.place = place


class IsGiven(PlayError):
    """A place is in the gift already."""

    def __init__(self, place):
        self.place = place


class NotGiven(PlayError):
    """A place is not in the gift."""

    def __init__(self, place):
        self.place = place


class NoGift(PlayError):
    """No gift lets the program be won."""


class Lost(PlayError):
    """The program is not won; number is the first input on which it is not."""

    def __init__(self, number):
        self.number = number


class Busy(PlayError):
    """A watch of the bench runs, so it is not edited."""


class TooManyEdits(PlayError):
    """As many edits stand as may."""


class NothingToUndo(PlayError):
    """No edit stands."""


class NothingToRedo(PlayError):
    """No edit was removed that could be put back."""


class BadEdits(PlayError):
    """A batch is not a list or tuple, or is too long."""


class BadEdit(PlayError):
    """The item at this index of a batch is not an edit."""

    def __init__(self, index):
        self.index = index


class Rejected(PlayError):
    """The item at this index of a batch raised an error."""

    def __init__(self, index):
        self.index = index


class NoPlace(LookupError):
    """A value is not a place of the program."""

    def __init__(self, place):
        self.place = place


class NoVersion(LookupError):
    """A value is not a version of the bench."""

    def __init__(self, version):
        self.version = version
