"""The refusals."""


class HallError(ValueError):
    """Any refusal."""


class NoHall(HallError):
    """What was handed in is no hall."""


class NoBook(HallError):
    """What was handed in is no book of the hall."""


class NoLooks(HallError):
    """What was handed in is no looks of the book."""


class NoRank(HallError):
    """What was handed in is no rank of the hall."""


class NoComings(HallError):
    """What was handed in is no comings of the hall, or no row of a rank that is had."""


class NoComer(HallError):
    """What was handed in is no comer."""


class NoTick(HallError):
    """What was handed in is no tick of the book."""


class NoNumber(HallError):
    """What was handed in is no number of a row that is had."""


class NotAlike(HallError):
    """The desks or the stays of the hall are not all alike."""


class NoRow(HallError):
    """What was handed in makes no book with the ticks so far."""


class CantBe(HallError):
    """No comings would do."""


class NothingLeft(HallError):
    """Nothing is left to be taken back."""
