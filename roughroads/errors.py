"""The errors of the library. Each keeps a copy of what was wrong."""
from roughroads.plain import copied


class RoughroadsError(ValueError):
    """Something that the library refuses."""


class InvalidRoad(RoughroadsError):
    """A value that is not a road, or not one that may be taken here."""

    def __init__(self, road):
        super().__init__("this road cannot be taken here")
        self.road = copied(road)


class InvalidLength(RoughroadsError):
    """A value that is not a length between the bounds of a road."""

    def __init__(self, length):
        super().__init__("this length is not between the bounds")
        self.length = copied(length)


class InvalidBounds(RoughroadsError):
    """A pair that is not a low and a high that a road may have."""

    def __init__(self, bounds):
        super().__init__("these bounds are not allowed")
        self.bounds = copied(bounds)


class Unsafe(RoughroadsError):
    """A decision that would be wrong for some lengths that are still possible."""

    def __init__(self, lengths):
        super().__init__("this would be wrong for some lengths")
        self.lengths = copied(lengths)
