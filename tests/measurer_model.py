"""What a measurer, its record and its ledger must be, by points [23] to [26], written again.

Only which witness is taken is asked of the package: find_witness of the present web.
"""
import functools

from oracles import all_choices, first_for_all, is_fixed, least, only_first, sums, tight_ok, witness_ok
from roughroads import errors
from roughroads.measurers import Measurer
from roughroads.witnesses import find_witness
from samples import exact


def ints(*values):
    return all(type(value) is int for value in values)


def with_bounds(web, road, low, high):
    rows = web[1]
    return web[0], rows[:road] + (rows[road][:2] + (low, high),) + rows[road + 1:]


def known(web, prices, entries):
    """Return the present web, a dict of the told roads, and the rests, behind the entries of a record."""
    told, rests = {}, list(prices)
    for word, *given in entries:
        if word == "round":
            for road in roads_of(given[0]):
                rests[road] -= given[1]
        else:
            web = with_bounds(web, given[0], given[1], given[-1])
            if word == "tell":
                told[given[0]] = given[1]
    return web, told, rests


def roads_of(witness):
    return sorted((witness[0],) + witness[3])


def refused(web, told, call):
    """Return the name and the argument of the error that a call must raise, or None."""
    word, road, *given = call
    if not ints(road) or road not in range(len(web[1])) or road in told:
        return "InvalidRoad", road
    low, high = web[1][road][2:]
    if word == "tell" and not (ints(*given) and low <= given[0] <= high):
        return "InvalidLength", given[0]
    if word == "narrow" and not (ints(*given) and low <= given[0] <= given[1] <= high):
        return "InvalidBounds", tuple(given)
    return None


def entry_ok(web, told, rests, value):
    """Return whether any value is right as the next entry of a record."""
    if type(value) is not tuple or not value or type(value[0]) is not str:
        return False
    if value[0] == "round":
        return (len(value) == 3 and tight_ok(web, value[1]) and ints(value[2])
                and 0 < min(rests[road] for road in roads_of(value[1])) == value[2])
    return {"tell": 3, "narrow": 4}.get(value[0]) == len(value) and refused(web, told, value) is None


def wrong_entry(web, prices, value):
    """Return the number of the first entry of a list that is not right, or None."""
    for at, entry in enumerate(value):
        if not entry_ok(*known(web, prices, value[:at]), entry):
            return at
    return None


def ledger_ok(web, now, prices, value):
    """Return whether any value is a ledger, by point [26]."""
    if type(value) is not list or not all(proof_ok(web, now, entry) for entry in value):
        return False
    return all(sum(entry[5] for entry in value if road in roads_of(entry)) <= price
               for road, price in enumerate(prices))


def proof_ok(web, now, value):
    if type(value) is not tuple or len(value) != 6 or not ints(value[0], value[5]) or type(value[3]) is not tuple:
        return False
    if not ints(*value[3]) or type(value[4]) is not tuple or value[5] < 1:
        return False
    roads = roads_of(value)
    if not all(road in range(len(web[1])) for road in roads) or len(roads) != len(value[4]):
        return False
    for road, pair in zip(roads, value[4]):
        if type(pair) is not tuple or len(pair) != 2 or not ints(*pair):
            return False
        if not web[1][road][2] <= pair[0] <= pair[1] <= web[1][road][3]:
            return False
        now = with_bounds(now, road, *pair)
    return witness_ok(now, value[:4])


@functools.lru_cache(maxsize=None)
def fixing(web, lengths):
    """Return all tuples of roads that fix the tree of a small web, by trying all lengths that are left."""
    return [roads for roads in all_choices(web)
            if only_first(web, [(lengths[at],) * 2 if at in roads else row[2:] for at, row in enumerate(web[1])])]


def least_price(web, lengths, prices):
    return min(sums(prices, roads) for roads in fixing(web, lengths))


def told_by(measurer):
    """Return all that a measurer tells without being changed, exactly."""
    return exact([measurer.web(), measurer.told(), measurer.prices(), measurer.asked(), measurer.wanted(),
                  measurer.tree(), measurer.owed(), measurer.paid(), measurer.extra(), measurer.ledger(),
                  measurer.record()])


def make(web, prices, calls):
    """Return a measurer behind some calls, ('undo',) among them."""
    measurer = Measurer(web, prices)
    for word, *given in calls:
        getattr(measurer, word)(*given)
    return measurer


class Model:
    """A measurer, and beside it what it must be."""

    def __init__(self, case, web, prices, measurer=None, entries=()):
        self.case, self.first, self.prices = case, web, prices
        self.measurer = Measurer(web, prices) if measurer is None else measurer
        self.entries = list(entries)
        self.make_round()
        self.check()

    def known(self):
        return known(self.first, self.prices, self.entries)

    def make_round(self):
        """Make the round that is due, and tell whether there was one."""
        web, _, rests = self.known()
        witness = find_witness(web)
        if witness is None or 0 in [rests[road] for road in roads_of(witness)]:
            return False
        self.entries.append(("round", witness, min(rests[road] for road in roads_of(witness))))
        return True

    def call(self, *call):
        """Make any call of tell or narrow, and return the name of the error that it must raise, or None."""
        web, told, _ = self.known()
        wrong = refused(web, told, call)
        if wrong is not None:
            self.check_error(call, *wrong)
            return wrong[0]
        self.case.assertIsNone(getattr(self.measurer, call[0])(*call[1:]))
        self.entries.append(call)
        self.make_round()
        return None

    def check_error(self, call, name, argument):
        with self.case.assertRaises(errors.RoughroadsError) as caught:
            getattr(self.measurer, call[0])(*call[1:])
        self.case.assertIs(type(caught.exception), getattr(errors, name), call)
        attribute = {"InvalidRoad": "road", "InvalidLength": "length", "InvalidBounds": "bounds"}[name]
        self.case.assertEqual(exact(getattr(caught.exception, attribute)), exact(argument), call)

    def undo(self):
        """Take the last call back, and tell whether a round was due then."""
        calls = [at for at, entry in enumerate(self.entries) if entry[0] != "round"]
        right = self.entries[calls[-1]] if calls else None
        self.case.assertEqual(exact(self.measurer.undo()), exact(right))
        self.entries = self.entries[:calls[-1]] if calls else self.entries
        return self.make_round()

    def check(self):
        """Check all that the measurer tells."""
        web, told, rests = self.known()
        asked = tuple(road for road, rest in enumerate(rests) if rest == 0)
        rounds = [(at, entry) for at, entry in enumerate(self.entries) if entry[0] == "round"]
        ledger = [entry[1] + (tuple(known(self.first, self.prices, self.entries[:at])[0][1][road][2:]
                                    for road in roads_of(entry[1])), entry[2]) for at, entry in rounds]
        paid = [entry[1] for at, entry in enumerate(self.entries) if entry[0] == "tell"
                and known(self.first, self.prices, self.entries[:at])[2][entry[1]] == 0]
        extra = [road for road in told if road not in paid]
        witness = find_witness(web)
        wanted = tuple(road for road in roads_of(witness) if road in asked) if witness is not None else ()
        tree = least(web, tuple(row[2] for row in web[1]))[0] if witness is None else None
        right = [web, told, self.prices, asked, wanted, tree, sum(entry[2] for _, entry in rounds),
                 sums(self.prices, paid), sums(self.prices, extra), ledger, self.entries]
        self.case.assertEqual(told_by(self.measurer), exact(right), (self.first, self.prices, self.entries))
        self.case.assertIs(witness is None, self.measurer.wanted() == ())
        if self.small():
            self.case.assertIs(witness is None, is_fixed(web))
        self.case.assertLessEqual(sums(self.prices, asked), 2 * self.measurer.owed())

    def small(self):
        """Return whether the web has so few lengths that they can be tried."""
        many = 1
        for row in self.first[1]:
            many *= row[3] - row[2] + 1
        return many <= 250

    def check_asked(self, before):
        """Check that the roads asked since are in the first tree for some possible lengths, but not for all."""
        web = self.known()[0]
        trees = set(first_for_all(web).values())
        for road in self.measurer.asked():
            if road not in before:
                self.case.assertEqual({road in tree for tree in trees}, {True, False}, (web, road))

    def check_way_back(self):
        """Check what undo takes back, down to the first web."""
        while any(entry[0] != "round" for entry in self.entries):
            self.undo()
            self.check()
        self.case.assertIsNone(self.measurer.undo())
        self.case.assertEqual(self.measurer.web(), self.first)
        self.check()


def drawn_call(web, told, draw):
    """Return a call of tell or narrow that is accepted, for a web that has roads which are not told, or None."""
    roads = [road for road in range(len(web[1])) if road not in told]
    if not roads:
        return None
    wide = [road for road in roads if web[1][road][2] < web[1][road][3]]
    road = draw.choice(wide if wide and draw.random() < 0.7 else roads)
    low, high = web[1][road][2:]
    if draw.random() < 0.5:
        return "tell", road, draw.randint(low, high)
    one = draw.randint(low, high)
    return draw.choice([("narrow", road, low, one), ("narrow", road, one, high), ("narrow", road, low, high),
                        ("narrow", road, one, one)])


def drawn_prices(web, draw):
    most = draw.choice([1, 2, 3, 9, 99])
    return tuple(draw.randint(1, most) for _ in web[1])
