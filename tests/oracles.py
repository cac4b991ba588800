"""What the document says, written again by trying all possibilities; nothing here calls the package."""
import functools
import itertools


def reached(rows, start):
    """Return the set of houses that can be reached by some rows."""
    found = {start}
    while True:
        more = {end for row in rows for here, end in ((row[0], row[1]), (row[1], row[0])) if here in found}
        if more <= found:
            return found
        found |= more


def joins(web, roads):
    return reached([web[1][road] for road in roads], 0) >= set(range(web[0]))


def web_ok(value):
    """Return whether any value is a web, by point [4]."""
    if type(value) is not tuple or len(value) != 2:
        return False
    size, rows = value
    if type(size) is not int or size not in range(1, 7) or type(rows) is not tuple or len(rows) > 10:
        return False
    for row in rows:
        if type(row) is not tuple or [type(part) for part in row] != [int] * 4:
            return False
        if row[:2] not in list(itertools.combinations(range(size), 2)):
            return False
        if row[2] not in range(100) or row[3] not in range(row[2], 100):
            return False
    return joins(value, range(len(rows)))


def all_detours(web, road):
    """Return all detours of a road, by trying all orders of other roads."""
    a, b = web[1][road][:2]
    others = [other for other in range(len(web[1])) if other != road]
    return sorted(way for many in range(1, web[0])
                  for way in itertools.permutations(others, many) if leads(web, way, a, b))


def leads(web, way, a, b):
    """Return whether some roads lead from a to b in this order and come to no house twice."""
    houses = [a]
    for road in way:
        pair = web[1][road][:2]
        if houses[-1] not in pair:
            return False
        houses.append(pair[1] if pair[0] == houses[-1] else pair[0])
    return houses[-1] == b and len(set(houses)) == len(houses)


def all_sides(web, road):
    a, b = web[1][road][:2]
    return sorted(side for many in range(web[0] + 1) for side in itertools.combinations(range(web[0]), many)
                  if a in side and b not in side)


def all_crossing(web, side):
    return [road for road in range(len(web[1])) if len(set(web[1][road][:2]) & set(side)) == 1]


@functools.lru_cache(maxsize=None)
def all_trees(web):
    return sorted(roads for roads in itertools.combinations(range(len(web[1])), web[0] - 1) if joins(web, roads))


def sums(lengths, roads):
    found = 0
    for road in roads:
        found += lengths[road]
    return found


def least(web, lengths):
    every = all_trees(web)
    best = min(sums(lengths, tree) for tree in every)
    return [tree for tree in every if sums(lengths, tree) == best]


def in_some(web, rows):
    return [road for road in range(len(web[1])) if [tree for tree in rows if road in tree]]


def in_all(web, rows):
    return [road for road in range(len(web[1])) if not [tree for tree in rows if road not in tree]]


def word(flags):
    """Return the word of Stage 6 for whether something holds, for each of all lengths."""
    return {(True,): "always", (False,): "never"}.get(tuple(set(flags)), "sometimes")


def least_sum(web, lengths):
    return min(sums(lengths, tree) for tree in all_trees(web))


def always_least(web, every):
    """Return the trees that are least trees for each of some lengths."""
    return [tree for tree in all_trees(web) if all(tree in least(web, lengths) for lengths in every)]


def all_plans(web):
    """Return all plans of a web."""
    roads = range(len(web[1]))
    return [tuple(tuple(road for road in roads if marks[road] == part) for part in (1, 2))
            for marks in itertools.product(range(3), repeat=len(roads))]


def plan_serves(web, plan, lengths):
    built, dropped = map(set, plan)
    return bool([tree for tree in least(web, lengths) if built <= set(tree) and not dropped & set(tree)])


def all_reasons(web, plan, road):
    """Return all reasons for a built or dropped road, by point [13]."""
    built, dropped = plan
    if road in built:
        return [side for side in all_sides(web, road)
                if not set(all_crossing(web, side)) & set(built) - {road}
                and all(other == road or other in dropped or web[1][other][2] >= web[1][road][3]
                        for other in all_crossing(web, side))]
    return [way for way in all_detours(web, road)
            if not set(way) & set(dropped) and all(web[1][other][3] <= web[1][road][2] for other in way)]


def paper_ok(web, plan, value):
    """Return whether any value is a paper of the plan."""
    if type(value) is not dict or {type(key) for key in value} > {int} or set(value) != set(plan[0] + plan[1]):
        return False
    return all(type(key) is int and type(reason) is tuple and all(type(part) is int for part in reason)
               and reason in all_reasons(web, plan, key) for key, reason in value.items())


@functools.lru_cache(maxsize=None)
def least_for_all(web):
    """Return a dict from all lengths of a small web to the least trees."""
    every = itertools.product(*[range(row[2], row[3] + 1) for row in web[1]])
    return {lengths: least(web, lengths) for lengths in every}


def holds(web, plan, every=None):
    """Return whether a plan serves all lengths of a small web, or all of those that are given."""
    if every is not None:
        return all(plan_serves(web, plan, lengths) for lengths in every)
    built, dropped = map(set, plan)
    return all(any(built <= set(tree) and not dropped & set(tree) for tree in trees)
               for trees in least_for_all(web).values())


def with_step(plan, step):
    """Return the plan with a step taken."""
    built, dropped = [set(part) for part in plan]
    (built if step[0] == "build" else dropped).add(step[1])
    return tuple(sorted(built)), tuple(sorted(dropped))
