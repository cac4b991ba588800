"""Stage 14: webs with other bounds or a road more, and what is left of a paper there."""
from roughroads.plans import decided, find_reason, is_reason
from roughroads.webs import bounded


def with_bounds(web, road, low, high):
    """Return the web in which a road has the given bounds."""
    return bounded(web, road, low, high)


def with_road(web, a, b, low, high):
    """Return the web with a road more, behind the others."""
    size, rows = web
    return (size, (*rows, (a, b, low, high)))


def kept(web, plan, paper):
    """Return the dict of the reasons of a paper that are reasons in this web, and the list of all other roads."""
    some = {road: paper[road] for road in decided(plan)
            if road in paper and is_reason(web, plan, road, paper[road])}
    return (some, [road for road in decided(plan) if road not in some])


def mended(web, plan, paper):
    """Return a paper of the plan with all reasons that are kept, or None if the plan does not hold."""
    some, spoilt = kept(web, plan, paper)
    new = {road: find_reason(web, plan, road) for road in spoilt}
    if any([new[road] is None for road in spoilt]):
        return None
    return {road: some[road] if road in some else new[road] for road in decided(plan)}
