"""Stage 12: plans of what is built and what is dropped, and the reasons for them."""
from roughroads.plain import first_of, is_integer
from roughroads.trees import grown, in_order, joins, least_total, total
from roughroads.ways import crossing, is_detour, is_side, ways_from
from roughroads.webs import best_lengths, high_of, is_roads, low_of, worst_lengths


def is_plan(web, value):
    """Return whether any value is a plan."""
    if not isinstance(value, tuple) or len(value) != 2:
        return False
    built, dropped = value
    return (is_roads(web, built) and is_roads(web, dropped)
            and not any([road in dropped for road in built]))


def decided(plan):
    """Return the roads that are built or dropped, in ascending order."""
    built, dropped = plan
    return sorted([*built, *dropped])


def undecided(web, plan):
    """Return the roads that are neither built nor dropped, in ascending order."""
    built, dropped = plan
    return [road for road in range(len(web[1])) if road not in built and road not in dropped]


def serves(web, plan, lengths):
    """Return whether some least tree for these lengths contains all built roads and no dropped one."""
    built, dropped = plan
    others = [road for road in in_order(lengths) if road not in dropped]
    # With the built roads first, this is the shortest of all trees that keep to the plan, if there are any.
    tree = grown(web, [*built, *others])
    return (joins(web, tree) and all([road in tree for road in built])
            and total(lengths, tree) == least_total(web, lengths))


def find_paper(web, plan):
    """Return a paper of the plan, or None if there is none."""
    paper = {road: find_reason(web, plan, road) for road in decided(plan)}
    return None if any([paper[road] is None for road in paper]) else paper


def find_breach(web, plan):
    """Return lengths that the plan does not serve, or None if there are none."""
    wrong = first_of([road for road in decided(plan) if find_reason(web, plan, road) is None])
    if wrong is None:
        return None
    # At these lengths each tree that keeps to the plan can be made shorter: a built road without a reason is
    # exchanged for a shorter one, or a road of the tree for the dropped one without a reason.
    return worst_lengths(web, (wrong,)) if wrong in plan[0] else best_lengths(web, (wrong,))


def is_paper(web, plan, value):
    """Return whether any value is a paper of the plan."""
    return (isinstance(value, dict) and all([is_integer(key) for key in value])
            and sorted(value) == decided(plan)
            and all([is_reason(web, plan, road, value[road]) for road in value]))


def find_reason(web, plan, road):
    """Return a reason for a built or dropped road, or None if there is none."""
    a, b = web[1][road][:2]
    if road in plan[0]:
        houses = ways_from(web, rivals(web, plan, road), a)
        return None if b in houses else tuple(sorted(houses))
    return ways_from(web, stand_ins(web, plan, road), a).get(b)


def is_reason(web, plan, road, value):
    """Return whether any value is a reason for a built or dropped road."""
    if road in plan[0]:
        against = rivals(web, plan, road)
        return is_side(web, road, value) and not any([other in against for other in crossing(web, value)])
    allowed = stand_ins(web, plan, road)
    return is_detour(web, road, value) and all([other in allowed for other in value])


def rivals(web, plan, road):
    """Return the roads that must not cross a side which is the reason for a built road."""
    built, dropped = plan
    return [other for other in range(len(web[1])) if other != road and other not in dropped
            and (other in built or low_of(web, other) < high_of(web, road))]


def stand_ins(web, plan, road):
    """Return the roads of which a detour may consist that is the reason for a dropped road."""
    return [other for other in range(len(web[1]))
            if other not in plan[1] and high_of(web, other) <= low_of(web, road)]
