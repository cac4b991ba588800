"""Stage 2: the detours of a road, its sides, and the roads that cross a side."""
from roughroads.plain import is_integers


def detours(web, road):
    """Return all detours of a road in ascending order."""
    start, end = web[1][road][:2]
    # Ascending without sorting: each step tries the roads in order, and no detour begins another one.
    return ways_on(web, road, (start,), end)


def ways_on(web, left_out, houses, end):
    """Return all ways from the last of the houses to the end, by new houses and without the road left out."""
    if houses[-1] == end:
        return [()]
    return [(road, *rest)
            for road, row in enumerate(web[1]) if road != left_out
            for house in new_houses(row, houses)
            for rest in ways_on(web, left_out, (*houses, house), end)]


def new_houses(row, houses):
    """Return the houses, one or none, that a road leads to from the last of the houses and that are new."""
    a, b = row[:2]
    return [there for here, there in ((a, b), (b, a)) if here == houses[-1] and there not in houses]


def ways_from(web, roads, start):
    """Return a dict from each house that can be reached from a house by these roads to a way that leads there."""
    ways = {start: ()}
    # One round brings at least one house more, until none is left that can be reached.
    for _ in range(web[0] - 1):
        for road in roads:
            a, b = web[1][road][:2]
            for here, there in ((a, b), (b, a)):
                if here in ways and there not in ways:
                    ways[there] = (*ways[here], road)
    return ways


def is_detour(web, road, value):
    """Return whether any value is a detour of a road."""
    return is_integers(value) and value in detours(web, road)


def sides(web, road):
    """Return all sides of a road in ascending order."""
    a, b = web[1][road][:2]
    found = [(a,)]
    for house in range(web[0]):
        if house != a and house != b:
            found = found + [(*side, house) for side in found]
    return sorted([tuple(sorted(side)) for side in found])


def is_side(web, road, value):
    """Return whether any value is a side of a road."""
    return is_integers(value) and value in sides(web, road)


def crossing(web, side):
    """Return the crossing roads of a side in ascending order."""
    return [road for road, row in enumerate(web[1]) if (row[0] in side) != (row[1] in side)]
