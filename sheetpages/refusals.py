"""The refusals of calls, an error class each."""


class OutOfRange(Exception):
    """A number is beyond what its call allows (-1)."""


class TooMany(Exception):
    """More is told than is kept (-5)."""
