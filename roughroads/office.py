"""Stage 17: an office that decides road by road, and gives a reason for each decision."""
from roughroads.edits import kept, mended
from roughroads.errors import InvalidBounds, InvalidLength, InvalidRoad, Unsafe
from roughroads.events import NOTHING_DECIDED, done, is_undecided
from roughroads.plans import find_breach, undecided
from roughroads.steps import find_against, options
from roughroads.webs import are_bounds, is_length, is_road, may_be_added


class Office:
    """A web, a plan that holds, and a paper of it; events change them."""

    def __init__(self, web):
        self._first = web
        self._entries = []
        # The first state, and behind it one for each entry of the log.
        self._states = [(web, NOTHING_DECIDED, {})]
        self._undone = []

    def __eq__(self, other):
        return isinstance(other, Office) and self._first == other._first and self._entries == other._entries

    def measure(self, road, length):
        """A road has just this length."""
        if not is_road(self.web(), road):
            raise InvalidRoad(road)
        if not is_length(self.web(), road, length):
            raise InvalidLength(length)
        self._accept(("measure", road, length))

    def build(self, road):
        """An undecided road is built."""
        self._decide("build", road)

    def drop(self, road):
        """An undecided road is dropped."""
        self._decide("drop", road)

    def correct(self, road, low, high):
        """A road has these bounds, which may be wider than before."""
        if not is_road(self.web(), road):
            raise InvalidRoad(road)
        if not are_bounds(low, high):
            raise InvalidBounds((low, high))
        self._accept(("correct", road, low, high))

    def add(self, a, b, low, high):
        """There is a road more, behind the others."""
        row = (a, b, low, high)
        if not may_be_added(self.web(), row):
            raise InvalidRoad(row)
        self._accept(("add", *row))

    def undo(self):
        """Take back the last event of the log, and return it, or None if there is none."""
        if not self._entries:
            return None
        entry = self._entries.pop()
        self._undone.append((entry, self._states.pop()))
        return entry[0]

    def redo(self):
        """Accept again the event that was taken back last, and return it, or None if there is none."""
        if not self._undone:
            return None
        entry, state = self._undone.pop()
        self._entries.append(entry)
        self._states.append(state)
        return entry[0]

    def web(self):
        """Return the present web."""
        return self._states[-1][0]

    def plan(self):
        """Return the present plan."""
        return self._states[-1][1]

    def paper(self):
        """Return the paper of the present plan."""
        return dict(self._states[-1][2])

    def options(self):
        """Return the options of the present plan in ascending order."""
        return options(self.web(), self.plan())

    def pending(self):
        """Return a dict from each undecided road to lengths that speak against building it, and dropping it."""
        web, plan = self.web(), self.plan()
        return {road: (find_against(web, plan, ("build", road)), find_against(web, plan, ("drop", road)))
                for road in undecided(web, plan)}

    def is_done(self):
        """Return whether every road is built or dropped."""
        return not undecided(self.web(), self.plan())

    def entries(self):
        """Return the accepted events that are not taken back, each with the reasons that it added or replaced."""
        return [(event, dict(changes)) for event, changes in self._entries]

    def _decide(self, word, road):
        if not is_undecided(self.web(), self.plan(), road):
            raise InvalidRoad(road)
        self._accept((word, road))

    def _accept(self, event):
        """Do an event and drop those that were taken back, or raise Unsafe if the plan does not hold behind it."""
        web, plan, paper = self._states[-1]
        web, plan = done(web, plan, event)
        whole = mended(web, plan, paper)
        if whole is None:
            raise Unsafe(find_breach(web, plan))
        spoilt = kept(web, plan, paper)[1]
        self._entries.append((event, {road: whole[road] for road in spoilt}))
        self._states.append((web, plan, whole))
        self._undone = []
