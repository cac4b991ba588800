"""Stage 23: a measurer, which says what roads to measure, and keeps a ledger of what has to be paid at least."""
from roughroads.cheapest import price_of
from roughroads.errors import InvalidBounds, InvalidLength, InvalidRoad
from roughroads.firsttrees import find_fixed
from roughroads.known import is_asked, is_untold, known_at_first, known_behind, least_rest
from roughroads.webs import are_within, is_length
from roughroads.witnesses import find_witness, roads_of


class Measurer:
    """A web, prices, what is known, and the rounds by which roads are asked."""

    def __init__(self, web, prices):
        self._first = web
        self._prices = prices
        self._entries = []
        # What is known at first, and behind it one state for each entry of the record.
        self._states = [known_at_first(web, prices)]
        self._make_round()

    def __eq__(self, other):
        return (isinstance(other, Measurer) and self._first == other._first and self._prices == other._prices
                and self._entries == other._entries)

    def tell(self, road, length):
        """A road has this length."""
        if not is_untold(self._states[-1], road):
            raise InvalidRoad(road)
        if not is_length(self.web(), road, length):
            raise InvalidLength(length)
        self._enter(("tell", road, length))
        self._make_round()

    def narrow(self, road, low, high):
        """A road has these bounds, which are not wider than before."""
        if not is_untold(self._states[-1], road):
            raise InvalidRoad(road)
        if not are_within(self.web(), road, low, high):
            raise InvalidBounds((low, high))
        self._enter(("narrow", road, low, high))
        self._make_round()

    def undo(self):
        """Take back the last call and the rounds behind it, and return it, or None if there is none."""
        calls = [at for at, entry in enumerate(self._entries) if entry[0] != "round"]
        call = None
        if calls:
            call = self._entries[calls[-1]]
            self._entries = self._entries[:calls[-1]]
            self._states = self._states[:calls[-1] + 1]
        self._make_round()
        return call

    def resume(self, record):
        """Take a record in the place of the present one, and make the round that is due behind it."""
        self._entries = []
        self._states = self._states[:1]
        for entry in record:
            self._enter(entry)
        self._make_round()

    def web(self):
        """Return the present web."""
        return self._states[-1][0]

    def told(self):
        """Return a dict from the told roads to their lengths."""
        return dict(self._states[-1][1])

    def prices(self):
        """Return the prices."""
        return self._prices

    def asked(self):
        """Return the ascending tuple of all asked roads, told or not."""
        return tuple([road for road in range(len(self._prices)) if is_asked(self._states[-1], road)])

    def wanted(self):
        """Return the ascending tuple of the asked roads of the present witness, or () if the web is fixed."""
        witness = find_witness(self.web())
        return () if witness is None else self._asked_of(witness)

    def tree(self):
        """Return the first tree if it is the same for all lengths that are left, or None."""
        paper = find_fixed(self.web())
        return None if paper is None else paper[0]

    def owed(self):
        """Return the sum of all amounts."""
        return sum([entry[2] for entry in self._entries if entry[0] == "round"])

    def paid(self):
        """Return the sum of the prices of the told roads that were asked when they were told."""
        return price_of(self._prices, [road for road, asked in self._tellings() if asked])

    def extra(self):
        """Return the sum of the prices of the other told roads."""
        return price_of(self._prices, [road for road, asked in self._tellings() if not asked])

    def ledger(self):
        """Return the rounds, each with the bounds that the roads of its witness had."""
        # The list of states is longer by one: here each entry stands beside what was known before it.
        return [(*entry[1], tuple([known[0][1][road][2:] for road in roads_of(entry[1])]), entry[2])
                for entry, known in zip(self._entries, self._states) if entry[0] == "round"]

    def record(self):
        """Return the rounds, tellings and narrowings that are not taken back."""
        return list(self._entries)

    def _tellings(self):
        """Return the told roads, each with whether it was asked when it was told."""
        return [(entry[1], is_asked(known, entry[1]))
                for entry, known in zip(self._entries, self._states) if entry[0] == "tell"]

    def _asked_of(self, witness):
        return tuple([road for road in roads_of(witness) if is_asked(self._states[-1], road)])

    def _enter(self, entry):
        self._entries.append(entry)
        self._states.append(known_behind(self._states[-1], entry))

    def _make_round(self):
        """Make a round with the present witness, if there is one and none of its roads is asked."""
        witness = find_witness(self.web())
        if witness is not None and not self._asked_of(witness):
            self._enter(("round", witness, least_rest(self._states[-1], witness)))
