"""The errors of the program, each made from a text."""


class StandError(ValueError):
    """What all errors of the program have in common."""


class NoProgram(StandError):
    """A value is no program."""


class NoStarts(StandError):
    """A value is no starts of the program."""


class NoState(StandError):
    """A value has not the form of a state of the threads."""


class NoKept(StandError):
    """A value is no list of different askings or takes, or an asking that is none to keep or leave."""


class NoPrices(StandError):
    """A value is no dict with a number for just what has a price."""


class NoNumber(StandError):
    """A value is no number."""


class NoThread(StandError):
    """A value is no thread."""


class NoPlace(StandError):
    """A value is no place of a function."""


class NoMove(StandError):
    """There is no such move."""


class TooMany(StandError):
    """There is more than the program looks at."""
