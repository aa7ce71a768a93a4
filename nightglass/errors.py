"""The refusals: one class for each, all of them straight under GlassError."""


class GlassError(ValueError):
    """Any refusal."""


class BadName(GlassError):
    """A plate's name is none."""


class BadPlate(GlassError):
    """A plate's window, limit or stars are not as they must be."""


class BadMotion(GlassError):
    """A motion's turn is none of the eight."""


class BadChain(GlassError):
    """A list of tie numbers is no chain from its start."""


class BadCount(GlassError):
    """A least count is below 1."""


class BadText(GlassError):
    """A text, or a row of several, can't be read; row counts from nought."""

    def __init__(self, row):
        GlassError.__init__(self, f"row {row} can't be read")
        self.row = row


class Denied(GlassError):
    """Two sayings of one place do not agree."""


class NoPlate(GlassError):
    """No plate of the name stands."""


class NoTie(GlassError):
    """No tie of the number stands."""


class NoLaying(GlassError):
    """Two laid lists have no laying."""


class NoDeed(GlassError):
    """There is no deed to take back or to do again."""


class Taken(GlassError):
    """A plate of the name stands already."""


class Full(GlassError):
    """The book holds as many plates or ties as it may."""


class SelfTie(GlassError):
    """A plate would be tied to itself."""


class SameSky(GlassError):
    """Two plates hang together that must not."""


class Crossed(GlassError):
    """A tie would contradict the chain that is told in by."""

    def __init__(self, by):
        GlassError.__init__(self, f"the chain {by} tells another motion")
        # The caller's list may change later; the refusal must not.
        self.by = list(by)


class Unlike(GlassError):
    """The plates here and there contradict one another at a place of here's window."""

    def __init__(self, here, there, place):
        GlassError.__init__(self, f"{here} and {there} do not agree at {place} of {here}")
        self.here = here
        self.there = there
        self.place = place
