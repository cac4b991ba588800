"""Stage 3: the trees of a web, and which roads are used or needed for given lengths."""
from itertools import combinations

from roughroads.webs import is_joined, is_roads, merged


def is_tree(web, value):
    """Return whether any value is a tree."""
    return is_roads(web, value) and len(value) == web[0] - 1 and joins(web, value)


def joins(web, roads):
    """Return whether each house can be reached from each other one by these roads."""
    return is_joined(web[0], [web[1][road] for road in roads])


def trees(web):
    """Return all trees in ascending order."""
    return [roads for roads in choices(len(web[1]), web[0] - 1) if joins(web, roads)]


def choices(many, count):
    """Return all ascending tuples of so many of the first numbers, in ascending order."""
    return list(combinations(range(many), count))


def in_order(lengths):
    """Return all roads by their lengths, equal ones in ascending order."""
    return sorted(range(len(lengths)), key=lambda road: lengths[road])


def grown(web, roads):
    """Return, as an ascending tuple, each of the roads that joins houses which those before it leave apart."""
    parts = list(range(web[0]))
    found = []
    for road in roads:
        a, b = web[1][road][:2]
        if parts[a] != parts[b]:
            parts = merged(parts, a, b)
            found.append(road)
    return tuple(sorted(found))


def first_least(web, lengths):
    """Return the first least tree in ascending order."""
    # No tree is shorter than one that grows by the shortest roads; of equal ones it takes the first.
    return grown(web, in_order(lengths))


def least_total(web, lengths):
    """Return the total of a least tree."""
    return total(lengths, first_least(web, lengths))


def total(lengths, tree):
    """Return the total of a tuple of roads, which need not be a tree."""
    return sum([lengths[road] for road in tree])


def least_trees(web, lengths):
    """Return the least trees in ascending order."""
    every = trees(web)
    least = min([total(lengths, tree) for tree in every])
    return [tree for tree in every if total(lengths, tree) == least]


def used(web, lengths):
    """Return the roads that are used, in ascending order."""
    least = least_trees(web, lengths)
    return [road for road in range(len(web[1])) if any([road in tree for tree in least])]


def needed(web, lengths):
    """Return the roads that are needed, in ascending order."""
    least = least_trees(web, lengths)
    return [road for road in range(len(web[1])) if all([road in tree for tree in least])]
