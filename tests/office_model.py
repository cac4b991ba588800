"""What an office and its log must be, by points [17] and [18], written again; only the office itself is asked."""
import functools

from oracles import all_reasons, paper_ok, plan_serves, with_step
from roughroads import errors
from roughroads.logs import log
from roughroads.office import Office
from samples import exact

NOTHING = ((), ())


@functools.lru_cache(maxsize=None)
def reasons(web, plan, road):
    return all_reasons(web, plan, road)


def has_paper(web, plan):
    """Return whether a plan has a paper; test_plans checks that it has one exactly if it holds."""
    return all(reasons(web, plan, road) for road in plan[0] + plan[1])


def ints(*values):
    return all(type(value) is int for value in values)


def undecided(web, plan):
    return [road for road in range(len(web[1])) if road not in plan[0] + plan[1]]


def refused(web, plan, event):
    """Return the name and the argument of the error that is first for an event, without Unsafe, or None."""
    word, *given = event
    road = given[0]
    if word == "add":
        a, b, low, high = given
        right = ints(*given) and 0 <= a < b < web[0] and 0 <= low <= high <= 99 and len(web[1]) < 10
        return None if right else ("InvalidRoad", tuple(given))
    roads = undecided(web, plan) if word in ("build", "drop") else range(len(web[1]))
    if not ints(road) or road not in roads:
        return ("InvalidRoad", road)
    if word == "measure" and (not ints(given[1]) or not web[1][road][2] <= given[1] <= web[1][road][3]):
        return ("InvalidLength", given[1])
    if word == "correct" and (not ints(*given[1:]) or not 0 <= given[1] <= given[2] <= 99):
        return ("InvalidBounds", tuple(given[1:]))
    return None


def behind(web, plan, event):
    """Return the web and the plan behind an event."""
    size, rows = web
    word, *given = event
    if word == "add":
        return (size, rows + (tuple(given),)), plan
    if word in ("build", "drop"):
        return web, with_step(plan, event)
    bounds = (given[1], given[-1])
    return (size, rows[:given[0]] + (rows[given[0]][:2] + bounds,) + rows[given[0] + 1:]), plan


def still_reasons(web, plan, paper):
    """Return the roads whose reason of a paper is a reason of the plan in this web."""
    return [road for road in paper if road in plan[0] + plan[1] and paper[road] in reasons(web, plan, road)]


def log_ok(web, value):
    """Return whether any value is a log for the web."""
    if type(value) is not list:
        return False
    plan, paper = NOTHING, {}
    for entry in value:
        if type(entry) is not tuple or len(entry) != 2 or not event_ok(web, plan, entry[0]):
            return False
        event, changes = entry
        if type(changes) is not dict or not ints(*changes):
            return False
        web, plan = behind(web, plan, event)
        if set(changes) & set(still_reasons(web, plan, paper)):
            return False
        paper = {**paper, **changes}
        if not paper_ok(web, plan, paper):
            return False
    return True


def event_ok(web, plan, value):
    counts = {"measure": 3, "build": 2, "drop": 2, "correct": 4, "add": 5}
    return (type(value) is tuple and len(value) > 1 and type(value[0]) is str
            and counts.get(value[0]) == len(value) and refused(web, plan, value) is None)


def drawn_event(web, plan, draw):
    """Return an event that may be accepted, or refused as unsafe, or now and then for its arguments."""
    word = draw.choice(["measure", "build", "drop", "build", "drop", "correct", "add"])
    if word in ("build", "drop"):
        roads = undecided(web, plan)
        return word, draw.choice(roads) if roads and draw.random() < 0.95 else draw.randint(-1, len(web[1]))
    if word == "add":
        a, b = sorted(draw.sample(range(web[0]), 2)) if web[0] > 1 else (0, 1)
        low = draw.randint(0, 5)
        return word, a, b, low, low + draw.randint(-1 if draw.random() < 0.1 else 0, 3)
    road = draw.randint(0, max(0, len(web[1]) - (draw.random() < 0.95)))
    if road == len(web[1]):
        return (word, road, 0) if word == "measure" else (word, road, 0, 1)
    low, high = web[1][road][2:]
    if word == "measure":
        return word, road, draw.randint(low, high) if draw.random() < 0.9 else high + 1
    low = max(0, low + draw.choice([-2, -1, 0, 0, 1, 2]))
    return word, road, low, low + draw.randint(0, 4)


def told(office):
    """Return all that an office tells without being changed, exactly."""
    return exact([office.web(), office.plan(), office.paper(), office.options(), office.pending(), office.is_done(),
                  log(office)])


def make(web, events):
    """Return an office of this web behind some events, ('undo',) and ('redo',) among them."""
    office = Office(web)
    for word, *given in events:
        getattr(office, word)(*given)
    return office


class Model:
    """An office, and beside it what it must be. Which reasons it chose is read off it and checked."""

    def __init__(self, case, web):
        self.case, self.first, self.office = case, web, Office(web)
        self.states, self.events, self.undone = [(web, NOTHING, {})], [], []
        self.changes = []
        self.check()

    def call(self, word, *given):
        """Make any call of an event, and return the name of the error that it must raise, or None."""
        event = (word, *given)
        web, plan, paper = self.states[-1]
        wrong = refused(web, plan, event)
        if wrong is not None:
            self.check_error(event, *wrong)
            return wrong[0]
        web, plan = behind(web, plan, event)
        if not has_paper(web, plan):
            self.check_unsafe(event, web, plan)
            return "Unsafe"
        self.case.assertIsNone(getattr(self.office, word)(*given))
        self.accepted(event, web, plan, paper)
        return None

    def check_error(self, event, name, argument):
        kind = getattr(errors, name)
        with self.case.assertRaises(errors.RoughroadsError) as caught:
            getattr(self.office, event[0])(*event[1:])
        error = caught.exception
        self.case.assertIs(type(error), kind, event)
        attribute = {"InvalidRoad": "road", "InvalidLength": "length", "InvalidBounds": "bounds"}[name]
        self.case.assertEqual(exact(getattr(error, attribute)), exact(argument), event)

    def check_unsafe(self, event, web, plan):
        with self.case.assertRaises(errors.RoughroadsError) as caught:
            getattr(self.office, event[0])(*event[1:])
        self.case.assertIs(type(caught.exception), errors.Unsafe, event)
        self.check_lengths(web, plan, caught.exception.lengths)

    def check_lengths(self, web, plan, lengths):
        """Check lengths of the web that the plan does not serve."""
        self.case.assertTrue(type(lengths) is tuple and ints(*lengths), lengths)
        self.case.assertEqual(len(lengths), len(web[1]), (web, plan, lengths))
        self.case.assertTrue(all(row[2] <= length <= row[3] for length, row in zip(lengths, web[1])), (web, lengths))
        self.case.assertFalse(plan_serves(web, plan, lengths), (web, plan, lengths))

    def accepted(self, event, web, plan, paper):
        """Take over an event that the office accepted, and check the reasons that it added or replaced."""
        new = self.office.paper()
        self.case.assertTrue(paper_ok(web, plan, new), (self.first, self.events, event, new))
        still = still_reasons(web, plan, paper)
        self.case.assertEqual({road: new[road] for road in still}, {road: paper[road] for road in still})
        self.events.append(event)
        self.changes.append({road: new[road] for road in new if road not in still})
        self.states.append((web, plan, new))
        self.undone = []

    def undo(self):
        if not self.events:
            self.case.assertIsNone(self.office.undo())
            return
        self.case.assertEqual(exact(self.office.undo()), exact(self.events[-1]))
        self.undone.append((self.events.pop(), self.changes.pop(), self.states.pop()))

    def redo(self):
        if not self.undone:
            self.case.assertIsNone(self.office.redo())
            return
        event, changes, state = self.undone.pop()
        self.case.assertEqual(exact(self.office.redo()), exact(event))
        self.events.append(event)
        self.changes.append(changes)
        self.states.append(state)

    def check(self, questions=True):
        """Check all that the office tells."""
        web, plan, paper = self.states[-1]
        office = self.office
        self.case.assertEqual(exact([office.web(), office.plan(), office.paper()]), exact([web, plan, paper]))
        self.case.assertEqual(exact(log(office)), exact(list(zip(self.events, self.changes))))
        self.case.assertIs(office.is_done(), not undecided(web, plan))
        if questions:
            self.check_questions(web, plan)

    def check_questions(self, web, plan):
        steps = [(word, road) for word in ("build", "drop") for road in undecided(web, plan)]
        right = [step for step in steps if has_paper(web, with_step(plan, step))]
        self.case.assertEqual(exact(self.office.options()), exact(right))
        pending = self.office.pending()
        self.case.assertEqual(exact(sorted(pending)), exact(undecided(web, plan)))
        for road, pair in pending.items():
            self.case.assertTrue(type(pair) is tuple and len(pair) == 2, pair)
            for word, lengths in zip(("build", "drop"), pair):
                if (word, road) in right:
                    self.case.assertIsNone(lengths)
                else:
                    self.check_lengths(web, with_step(plan, (word, road)), lengths)

    def check_way_back(self):
        """Check what redo takes up to its end, and then what undo takes down to the web at first."""
        while self.undone:
            self.redo()
            self.check(False)
        self.case.assertIsNone(self.office.redo())
        while self.events:
            self.undo()
            self.check(False)
        self.case.assertIsNone(self.office.undo())
        self.check()
