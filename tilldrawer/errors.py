"""The refusals of the program."""


class TillError(ValueError):
    """Any refusal."""


class NoTill(TillError):
    """A till would have too few or too many kinds."""


class NoKind(TillError):
    """A value can't be one of a kind, or no kind has it here."""


class Twice(TillError):
    """A kind is there already."""


class NoCount(TillError):
    """A count is too low or too high."""


class NoSum(TillError):
    """A sum is too low or too high."""


class TooLittle(TillError):
    """Less is paid than the price."""


class NoChange(TillError):
    """No pieces make the sum."""


class TooFew(TillError):
    """Fewer pieces lie there than are asked for."""


class StillHeld(TillError):
    """Pieces of the kind lie there still."""


class NoDeed(TillError):
    """No deed has this word."""
