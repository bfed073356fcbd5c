"""The refusals, one class for each."""


class QuadError(ValueError):
    """Any refusal."""


class NoBack(QuadError):
    """A table has no back, or nothing is there to be taken back."""


class NoWord(QuadError):
    """A text is no word."""


class NoPlain(QuadError):
    """A table isn't plain."""


class NoWide(QuadError):
    """A table isn't wide."""


class TooLong(QuadError):
    """A table's word has too many letters."""


class NoMakers(QuadError):
    """A list isn't one of makers."""


class NoCount(QuadError):
    """A count is asked out of its bounds."""


class NoText(QuadError):
    """A text is no written table."""


class NoName(QuadError):
    """A word is no name, or no name that stands."""


class NoRow(QuadError):
    """A row isn't one that a desk knows."""


class NoMill(QuadError):
    """A mill is asked where there is none."""
