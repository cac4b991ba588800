"""Stage 25: an opponent, whose answers make whoever fixes its web ask for all roads."""
from roughroads.errors import InvalidRoad
from roughroads.webs import is_road

# The lengths of the roads 2i and 2i + 1, each if it is asked first in its pair, and if it is asked second.
FIRST_LENGTHS = (2, 1)
SECOND_LENGTHS = (0, 3)


class Opponent:
    """A web of pairs of roads; the answers depend on which road of a pair is asked first."""

    def __init__(self, pairs):
        self._pairs = pairs
        self._lengths = {}

    def __eq__(self, other):
        return isinstance(other, Opponent) and self._pairs == other._pairs and self._lengths == other._lengths

    def web(self):
        """Return the web."""
        rows = [row for at in range(self._pairs) for row in ((at, at + 1, 0, 2), (at, at + 1, 1, 3))]
        return (self._pairs + 1, tuple(rows))

    def answer(self, road):
        """Return the length of a road that was not answered yet."""
        if not is_road(self.web(), road) or road in self._lengths:
            raise InvalidRoad(road)
        lengths = SECOND_LENGTHS if partner(road) in self._lengths else FIRST_LENGTHS
        self._lengths[road] = lengths[road % 2]
        return self._lengths[road]

    def answered(self):
        """Return a dict from the answered roads to their lengths."""
        return dict(self._lengths)

    def best(self):
        """Return the roads that were answered second in their pair when all were answered, or None before."""
        if len(self._lengths) < 2 * self._pairs:
            return None
        return tuple([road for road in range(2 * self._pairs) if self._lengths[road] == SECOND_LENGTHS[road % 2]])


def partner(road):
    """Return the other road of the pair of a road."""
    return road + 1 if road % 2 == 0 else road - 1
