"""The refusals of the package."""


class NetError(ValueError):
    """Any refusal."""


class BadPost(NetError):
    """A width below one, or a post that is none."""


class BadRow(NetError):
    """A row with more or fewer numbers than the net has lanes."""


class TooWide(NetError):
    """A net with too many lanes for trying all rows of noughts and ones."""


class NoNet(NetError):
    """Lines that tell no net."""
