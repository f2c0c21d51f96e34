"""The refusals of calls, an error class each."""


class OutOfRange(Exception):
    """A number is beyond what its call allows (-1)."""


class CannotBeTold(Exception):
    """A text is too long, or has a sign behind & that means nothing (-3)."""


class TooMany(Exception):
    """More is told than is kept (-5)."""


class NoSuchPage(Exception):
    """There are not so many pages (-6)."""
