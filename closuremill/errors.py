"""The errors with which the program refuses what it is handed."""


class MillError(ValueError):
    """Any refusal."""


class NoTree(MillError):
    """What was handed in to be looked at is no tree."""


class NotClosed(MillError):
    """A name is free that would have to be worked out."""


class BadMost(MillError):
    """What was handed in as the most deeds is no such count."""


class NoNumber(MillError):
    """A function stands where a deed needs a number."""


class NoFunction(MillError):
    """A number stands where a call needs a function."""


class Dry(MillError):
    """There is no value behind the most deeds."""


class NoText(MillError):
    """What was handed in writes no single tree."""
