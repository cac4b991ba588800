"""Stage 1: webs of houses and roads, and lengths between the bounds of the roads."""
from roughroads.plain import is_ascending, is_integer, is_integers

MOST_HOUSES = 6
MOST_ROADS = 10
MOST_LENGTH = 99


def is_web(value):
    """Return whether any value is a web."""
    if not isinstance(value, tuple) or len(value) != 2:
        return False
    size, rows = value
    return (is_integer(size) and 1 <= size <= MOST_HOUSES
            and are_rows(size, rows) and is_joined(size, rows))


def is_lengths(web, value):
    """Return whether any value is lengths of the web."""
    rows = web[1]
    return (is_integers(value) and len(value) == len(rows)
            and all([row[2] <= length <= row[3] for length, row in zip(value, rows)]))


def are_rows(size, value):
    """Return whether any value is a tuple of so many (a, b, low, high) as a web of this size may have."""
    return (isinstance(value, tuple) and len(value) <= MOST_ROADS
            and all([is_row(size, row) for row in value]))


def is_row(size, value):
    """Return whether any value is one (a, b, low, high) of a web of this size."""
    if not is_integers(value) or len(value) != 4:
        return False
    a, b, low, high = value
    return 0 <= a < b < size and 0 <= low <= high <= MOST_LENGTH


def is_joined(size, rows):
    """Return whether each house can be reached from each other one by roads with these rows."""
    parts = list(range(size))
    for row in rows:
        parts = merged(parts, row[0], row[1])
    return all([part == parts[0] for part in parts])


def merged(parts, a, b):
    """Return the part that each house belongs to, once a road joins the parts of the houses a and b."""
    return [parts[a] if part == parts[b] else part for part in parts]


def is_roads(web, value):
    """Return whether any value is an ascending tuple of roads, none twice."""
    many = len(web[1])
    return (is_integers(value) and is_ascending(value)
            and all([0 <= road < many for road in value]))


def is_road(web, value):
    """Return whether any value is a road."""
    return is_integer(value) and 0 <= value < len(web[1])


def is_length(web, road, value):
    """Return whether any value is a length between the bounds of a road."""
    return is_integer(value) and low_of(web, road) <= value <= high_of(web, road)


def are_bounds(low, high):
    """Return whether any two values are a low and a high that a road may have."""
    return is_integer(low) and is_integer(high) and 0 <= low <= high <= MOST_LENGTH


def are_within(web, road, low, high):
    """Return whether any two values are a low and a high between the bounds of a road."""
    return is_length(web, road, low) and is_length(web, road, high) and low <= high


def may_be_added(web, value):
    """Return whether any value is one (a, b, low, high) that the web may have more."""
    return is_row(web[0], value) and len(web[1]) < MOST_ROADS


def low_of(web, road):
    """Return the low of a road."""
    return web[1][road][2]


def high_of(web, road):
    """Return the high of a road."""
    return web[1][road][3]


def lows(web):
    """Return the lengths at which all roads have their lows."""
    return tuple([row[2] for row in web[1]])


def highs(web):
    """Return the lengths at which all roads have their highs."""
    return tuple([row[3] for row in web[1]])


def best_lengths(web, roads):
    """Return the lengths at which these roads have their lows, and all others their highs."""
    return tuple([row[2] if road in roads else row[3] for road, row in enumerate(web[1])])


def worst_lengths(web, roads):
    """Return the lengths at which these roads have their highs, and all others their lows."""
    return tuple([row[3] if road in roads else row[2] for road, row in enumerate(web[1])])


def bounded(web, road, low, high):
    """Return the web in which a road has other bounds."""
    size, rows = web
    a, b = rows[road][:2]
    return (size, (*rows[:road], (a, b, low, high), *rows[road + 1:]))
