"""Stage 24: the records of measurers, and ledgers, checked without any measurer."""
from roughroads.edits import with_bounds
from roughroads.known import is_entry, known_at_first, known_behind
from roughroads.measurers import Measurer
from roughroads.plain import is_integer
from roughroads.webs import are_within, is_road, is_roads
from roughroads.witnesses import is_witness, roads_of


def first_wrong(web, prices, value):
    """Return the number of the first entry of a list that is not right, or None if it is a record."""
    known = known_at_first(web, prices)
    for at, entry in enumerate(value):
        if not is_entry(known, entry):
            return at
        known = known_behind(known, entry)
    return None


def is_record(web, prices, value):
    """Return whether any value is a record."""
    return isinstance(value, list) and first_wrong(web, prices, value) is None


def resumed(web, prices, record):
    """Return a measurer with this record, and with the round behind it that is due."""
    measurer = Measurer(web, prices)
    measurer.resume(record)
    return measurer


def is_ledger(web, now, prices, value):
    """Return whether any value is a ledger."""
    return (isinstance(value, list) and all([is_proof(web, now, entry) for entry in value])
            and all([amounts_for(value, road) <= price for road, price in enumerate(prices)]))


def amounts_for(ledger, road):
    """Return the sum of the amounts of the entries of which a road is one of the roads."""
    return sum([entry[5] for entry in ledger if road in roads_of(entry)])


def is_proof(web, now, value):
    """Return whether any value may be an entry of a ledger, whatever the others are."""
    if not isinstance(value, tuple) or len(value) != 6:
        return False
    bounds, amount = value[4:]
    if not is_road(web, value[0]) or not is_roads(web, value[3]) or not is_integer(amount) or amount < 1:
        return False
    roads = roads_of(value)
    return are_bounds_of(web, roads, bounds) and is_witness(with_all_bounds(now, roads, bounds), value[:4])


def are_bounds_of(web, roads, value):
    """Return whether any value is a tuple of bounds for these roads, each within the bounds of the web."""
    return (isinstance(value, tuple) and len(value) == len(roads)
            and all([isinstance(pair, tuple) and len(pair) == 2 for pair in value])
            and all([are_within(web, road, pair[0], pair[1]) for road, pair in zip(roads, value)]))


def with_all_bounds(web, roads, bounds):
    """Return the web in which these roads have these bounds."""
    for road, pair in zip(roads, bounds):
        web = with_bounds(web, road, pair[0], pair[1])
    return web
