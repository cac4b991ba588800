"""Stage 5: for which lengths a road is needed, and why it never or always is."""
from roughroads.plain import first_of
from roughroads.ways import crossing, detours, is_detour, is_side, sides
from roughroads.webs import best_lengths, high_of, low_of, worst_lengths


def spares(web, road, detour):
    """Return whether a detour of the road spares it."""
    return all([high_of(web, other) <= low_of(web, road) for other in detour])


def forces(web, road, side):
    """Return whether a side of the road forces it."""
    return all([high_of(web, road) < low_of(web, other) for other in crossing(web, side) if other != road])


def find_needed(web, road):
    """Return lengths for which the road is needed, or None if there are none."""
    # If it is needed for any lengths, it is needed at its low with all others at their highs.
    return best_lengths(web, (road,)) if find_spare(web, road) is None else None


def find_unneeded(web, road):
    """Return lengths for which the road is not needed, or None if there are none."""
    # If it is not needed for any lengths, it is not at its high with all others at their lows.
    return worst_lengths(web, (road,)) if find_force(web, road) is None else None


def find_spare(web, road):
    """Return the first detour that spares the road, or None if there is none."""
    return first_of([detour for detour in detours(web, road) if spares(web, road, detour)])


def find_force(web, road):
    """Return the first side that forces the road, or None if there is none."""
    return first_of([side for side in sides(web, road) if forces(web, road, side)])


def is_spare(web, road, value):
    """Return whether any value is a detour that spares the road."""
    return is_detour(web, road, value) and spares(web, road, value)


def is_force(web, road, value):
    """Return whether any value is a side that forces the road."""
    return is_side(web, road, value) and forces(web, road, value)
