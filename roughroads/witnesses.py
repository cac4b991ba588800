"""Stage 20: witnesses, sets of roads of which one has to be measured before the first tree is known."""
from roughroads.firsttrees import detour_in, first_tree, hi, lo
from roughroads.judging import exchanged
from roughroads.plain import first_of, is_integers
from roughroads.trees import in_order
from roughroads.ways import crossing, is_detour, is_side, ways_from
from roughroads.webs import highs, is_road, lows, worst_lengths


def find_witness(web):
    """Return a tight witness, or None if the web is fixed."""
    tree = first_tree(web, lows(web))
    unsure = first_of([road for road in in_order(lows(web)) if road not in tree
                       and lo(web, road) < hi(web, latest(web, tree, road))])
    return None if unsure is None else witness_for(web, tree, unsure)


def latest(web, tree, road):
    """Return the road with the greatest hi of the detour in the tree of a road that is not in it."""
    return max(detour_in(web, tree, road), key=lambda other: hi(web, other))


def witness_for(web, tree, unsure):
    """Return a tight witness, where unsure is the first road by lo that may come before some road of its detour.

    The tree is the first one for the lows. Both sides are got by taking one road of it out, the last of the detour.
    So this is the only road of the tree that crosses them, and it is in the detour of each other crossing road.
    """
    last = latest(web, tree, unsure)
    if hi(web, last) < hi(web, unsure):
        # Each crossing road that comes before the unsure one by lo has a lo greater than the hi of the last one,
        # which is greater than the lo of the unsure one; so there is none.
        return (unsure, detour_in(web, tree, unsure), side_of(web, tree, last, unsure), (last,))
    # Each crossing road comes behind the last one by lo, as the tree is the first one for the lows.
    return (last, detour_in(web, exchanged(tree, last, unsure), last), side_of(web, tree, last, last), ())


def side_of(web, tree, out, road):
    """Return the side with the first house of a road that is left when one road is taken out of a tree."""
    return tuple(sorted(ways_from(web, [other for other in tree if other != out], web[1][road][0])))


def is_witness(web, value):
    """Return whether any value is a witness."""
    if not isinstance(value, tuple) or len(value) != 4 or not is_road(web, value[0]):
        return False
    road, detour, side, others = value
    return (is_detour(web, road, detour) and all([hi(web, other) < hi(web, road) for other in detour])
            and is_side(web, road, side)
            and is_integers(others) and list(others) == lower_crossing(web, road, side)
            and all([lo(web, road) < hi(web, other) for other in others]))


def lower_crossing(web, road, side):
    """Return, in ascending order, the other crossing roads of a side whose lo is less than that of the road."""
    return [other for other in crossing(web, side) if lo(web, other) < lo(web, road)]


def is_tight(web, value):
    """Return whether any value is a tight witness."""
    return is_witness(web, value) and (not value[3] or is_tightened(web, value[1], value[3]))


def is_tightened(web, detour, others):
    """Return whether there is one other road, in the detour, whose hi is greater than the lo of the rest of it."""
    return (len(others) == 1 and others[0] in detour
            and all([lo(web, road) < hi(web, others[0]) for road in detour if road != others[0]]))


def roads_of(witness):
    """Return the roads of a witness, in ascending order."""
    road, others = witness[0], witness[3]
    return sorted([road, *others])


def unlike_lengths(web, witness):
    """Return lengths for which the road of a witness is not in the first tree, and lengths for which it is."""
    return (worst_lengths(web, (witness[0],)), worst_lengths(web, witness[3]))


def find_must(web, road):
    """Return a must with this road in front, or None if there is none."""
    a, b = web[1][road][:2]
    detour = ways_before(web, road).get(b)
    houses = ways_below(web, road)
    return None if detour is None or b in houses else (road, detour, tuple(sorted(houses)), ())


def find_without(web, road):
    """Return lengths for which the web is fixed when all other roads have theirs, or None if there are none."""
    b = web[1][road][1]
    if b in ways_below(web, road):
        # With all others at their lows the road never is in the first tree.
        return lows(web)
    # With all others at their highs the road always is in the first tree if each detour has a road behind it.
    return None if b in ways_before(web, road) else highs(web)


def ways_before(web, road):
    """Return the ways from the first house of a road by the roads that have a lesser hi."""
    return ways_from(web, [other for other in range(len(web[1])) if hi(web, other) < hi(web, road)], web[1][road][0])


def ways_below(web, road):
    """Return the ways from the first house of a road by the roads that have a lesser lo."""
    return ways_from(web, [other for other in range(len(web[1])) if lo(web, other) < lo(web, road)], web[1][road][0])
