"""Stage 19: the first of the least trees, and webs in which it is the same for all lengths."""
from roughroads.plain import is_integer, is_integers
from roughroads.trees import first_least, is_tree
from roughroads.ways import ways_from
from roughroads.webs import high_of, highs, low_of


def lo(web, road):
    """Return what a road is compared by at its low."""
    return (low_of(web, road), road)


def hi(web, road):
    """Return what a road is compared by at its high."""
    return (high_of(web, road), road)


def surely_before(web, one, other):
    """Return whether a road comes before another one for all lengths."""
    return hi(web, one) < lo(web, other)


def first_tree(web, lengths):
    """Return the first least tree in ascending order."""
    return first_least(web, lengths)


def not_in(web, tree):
    """Return the roads that are not in a tree, in ascending order."""
    return [road for road in range(len(web[1])) if road not in tree]


def detour_in(web, tree, road):
    """Return the detour of a road all of whose roads are in a tree. There is only one if the road is not."""
    a, b = web[1][road][:2]
    return ways_from(web, tree, a)[b]


def find_fixed(web):
    """Return the fixed paper, or None if there is none."""
    # Only the first tree for some lengths can be the first tree for all.
    tree = first_tree(web, highs(web))
    detours = {road: detour_in(web, tree, road) for road in not_in(web, tree)}
    return (tree, detours) if all([are_before(web, detours[road], road) for road in detours]) else None


def is_fixed_paper(web, value):
    """Return whether any value is a fixed paper."""
    if not isinstance(value, tuple) or len(value) != 2:
        return False
    tree, detours = value
    return (is_tree(web, tree) and isinstance(detours, dict) and all([is_integer(key) for key in detours])
            and sorted(detours) == not_in(web, tree)
            and all([is_fixed_detour(web, tree, road, detours[road]) for road in detours]))


def is_fixed_detour(web, tree, road, value):
    """Return whether any value is a detour in the tree of a road that is not, and is surely before it."""
    return is_integers(value) and value == detour_in(web, tree, road) and are_before(web, value, road)


def are_before(web, roads, road):
    """Return whether all of some roads are surely before a road."""
    return all([surely_before(web, one, road) for one in roads])
