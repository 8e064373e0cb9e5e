"""The refusals of Ringland."""


class ShapeError(ValueError):
    """Any refusal."""


class BadRings(ShapeError):
    """What was handed in is no list of rings."""


class BadSpot(ShapeError):
    """What was handed in is no spot."""
