"""Stage 15: how the houses share the total of a least tree, and which groups would refuse."""
from roughroads.plain import first_of, is_integers
from roughroads.trees import choices, first_least, grown, in_order, least_total, total
from roughroads.ways import ways_from


def group_cost(web, lengths, group):
    """Return the least total of roads that join a group and house 0 alone, or None if there are no such roads."""
    houses = (0, *group)
    inside = [road for road in in_order(lengths) if web[1][road][0] in houses and web[1][road][1] in houses]
    found = grown(web, inside)
    # So many roads without a ring join as many houses and one more.
    return total(lengths, found) if len(found) == len(group) else None


def groups(web):
    """Return all groups in ascending order."""
    size = web[0]
    return sorted([group for count in range(1, size) for group in choices(size, count) if 0 not in group])


def fair_shares(web, lengths):
    """Return the shares by which each house pays the first road on its way to house 0 in the first least tree."""
    ways = ways_from(web, first_least(web, lengths), 0)
    return (0, *[lengths[ways[house][-1]] for house in range(1, web[0])])


def is_shares(web, lengths, value):
    """Return whether any value is shares."""
    return (is_integers(value) and len(value) == web[0] and value[0] == 0
            and all([share >= 0 for share in value])
            and sum(value) == least_total(web, lengths))


def find_refusing(web, lengths, shares):
    """Return the first group that refuses the shares, or None if there is none."""
    return first_of([group for group in groups(web) if refuses(web, lengths, shares, group)])


def refuses(web, lengths, shares, group):
    """Return whether a group refuses the shares."""
    cost = group_cost(web, lengths, group)
    return cost is not None and sum([shares[house] for house in group]) > cost
