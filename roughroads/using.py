"""Stage 4: for which lengths a road is used, and why it never or always is."""
from roughroads.plain import first_of
from roughroads.ways import crossing, detours, is_detour, is_side, sides
from roughroads.webs import best_lengths, high_of, low_of, worst_lengths


def bars(web, road, detour):
    """Return whether a detour of the road bars its use."""
    return all([high_of(web, other) < low_of(web, road) for other in detour])


def holds(web, road, side):
    """Return whether a side of the road holds its use."""
    return all([high_of(web, road) <= low_of(web, other) for other in crossing(web, side) if other != road])


def find_used(web, road):
    """Return lengths for which the road is used, or None if there are none."""
    # If it is used for any lengths, it is used at its low with all others at their highs.
    return best_lengths(web, (road,)) if find_bar(web, road) is None else None


def find_unused(web, road):
    """Return lengths for which the road is not used, or None if there are none."""
    # If it is unused for any lengths, it is unused at its high with all others at their lows.
    return worst_lengths(web, (road,)) if find_hold(web, road) is None else None


def find_bar(web, road):
    """Return the first detour that bars the use of the road, or None if there is none."""
    return first_of([detour for detour in detours(web, road) if bars(web, road, detour)])


def find_hold(web, road):
    """Return the first side that holds the use of the road, or None if there is none."""
    return first_of([side for side in sides(web, road) if holds(web, road, side)])


def is_bar(web, road, value):
    """Return whether any value is a detour that bars the use of the road."""
    return is_detour(web, road, value) and bars(web, road, value)


def is_hold(web, road, value):
    """Return whether any value is a side that holds the use of the road."""
    return is_side(web, road, value) and holds(web, road, value)
