"""The refusals, one class each.

The fields are handed on to the base as they are, so that a copy of an error bears them too.
"""


class MotifError(ValueError):
    """Any refusal."""


class WrongSign(MotifError):
    """A text is not good; place tells its first wrong sign, or its length where it ends too early."""

    def __init__(self, place):
        MotifError.__init__(self, place)
        self.place = place


class OneLine(MotifError):
    """The two shifts of a motif lie along one line; place tells where the motif begins."""

    def __init__(self, place):
        MotifError.__init__(self, place)
        self.place = place


class TooGreat(MotifError):
    """A family has more cells than a field may have."""


class TooFar(MotifError):
    """A cell or a side of a rectangle is too far away."""


class NoRow(MotifError):
    """Fewer rows than asked for are not yet laid."""


class Parted(MotifError):
    """A text does not show what lies already; x and y tell the first cell where it does not."""

    def __init__(self, x, y):
        MotifError.__init__(self, x, y)
        self.x = x
        self.y = y


class NothingKept(MotifError):
    """No deed is kept that could be undone."""
