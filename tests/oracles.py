"""What the document says, written again by trying all possibilities; nothing here calls the package."""
import functools
import itertools


def reached(rows, start):
    """Return the set of houses that can be reached by some rows."""
    found = {start}
    while True:
        more = {end for row in rows for here, end in ((row[0], row[1]), (row[1], row[0])) if here in found}
        if more <= found:
            return found
        found |= more


def joins(web, roads):
    return reached([web[1][road] for road in roads], 0) >= set(range(web[0]))


def web_ok(value):
    """Return whether any value is a web, by point [4]."""
    if type(value) is not tuple or len(value) != 2:
        return False
    size, rows = value
    if type(size) is not int or size not in range(1, 7) or type(rows) is not tuple or len(rows) > 10:
        return False
    for row in rows:
        if type(row) is not tuple or [type(part) for part in row] != [int] * 4:
            return False
        if row[:2] not in list(itertools.combinations(range(size), 2)):
            return False
        if row[2] not in range(100) or row[3] not in range(row[2], 100):
            return False
    return joins(value, range(len(rows)))


def all_detours(web, road):
    """Return all detours of a road, by trying all choices of other roads."""
    return list(detours_by_ends(web[0], tuple(row[:2] for row in web[1]), road))


@functools.lru_cache(maxsize=None)
def detours_by_ends(size, ends, road):
    others = [other for other in range(len(ends)) if other != road]
    ways = [ordered(ends, chosen, *ends[road]) for many in range(1, size)
            for chosen in itertools.combinations(others, many)]
    return sorted(way for way in ways if way is not None)


def ordered(ends, chosen, a, b):
    """Return the order in which all chosen roads lead from a to b and come to no house twice, or None."""
    left, way, houses = set(chosen), [], [a]
    while left:
        # Two that go on from here would come back here.
        following = [road for road in left if houses[-1] in ends[road]]
        if len(following) != 1:
            return None
        way += following
        left -= set(following)
        houses.append(sum(ends[way[-1]]) - houses[-1])
    return tuple(way) if houses[-1] == b and len(set(houses)) == len(houses) else None


def all_sides(web, road):
    a, b = web[1][road][:2]
    return sorted(side for many in range(web[0] + 1) for side in itertools.combinations(range(web[0]), many)
                  if a in side and b not in side)


def all_crossing(web, side):
    return [road for road in range(len(web[1])) if len(set(web[1][road][:2]) & set(side)) == 1]


@functools.lru_cache(maxsize=None)
def all_trees(web):
    return sorted(roads for roads in itertools.combinations(range(len(web[1])), web[0] - 1) if joins(web, roads))


def sums(lengths, roads):
    found = 0
    for road in roads:
        found += lengths[road]
    return found


def least(web, lengths):
    every = all_trees(web)
    best = min(sums(lengths, tree) for tree in every)
    return [tree for tree in every if sums(lengths, tree) == best]


def in_some(web, rows):
    return [road for road in range(len(web[1])) if [tree for tree in rows if road in tree]]


def in_all(web, rows):
    return [road for road in range(len(web[1])) if not [tree for tree in rows if road not in tree]]


def word(flags):
    """Return the word of Stage 6 for whether something holds, for each of all lengths."""
    return {(True,): "always", (False,): "never"}.get(tuple(set(flags)), "sometimes")


def least_sum(web, lengths):
    return min(sums(lengths, tree) for tree in all_trees(web))


def always_least(web, every):
    """Return the trees that are least trees for each of some lengths."""
    return [tree for tree in all_trees(web) if all(tree in least(web, lengths) for lengths in every)]


def all_plans(web):
    """Return all plans of a web."""
    roads = range(len(web[1]))
    return [tuple(tuple(road for road in roads if marks[road] == part) for part in (1, 2))
            for marks in itertools.product(range(3), repeat=len(roads))]


def plan_serves(web, plan, lengths):
    built, dropped = map(set, plan)
    return bool([tree for tree in least(web, lengths) if built <= set(tree) and not dropped & set(tree)])


def all_reasons(web, plan, road):
    """Return all reasons for a built or dropped road, by point [13]."""
    built, dropped = plan
    if road in built:
        return [side for side in all_sides(web, road)
                if not set(all_crossing(web, side)) & set(built) - {road}
                and all(other == road or other in dropped or web[1][other][2] >= web[1][road][3]
                        for other in all_crossing(web, side))]
    return [way for way in all_detours(web, road)
            if not set(way) & set(dropped) and all(web[1][other][3] <= web[1][road][2] for other in way)]


def paper_ok(web, plan, value):
    """Return whether any value is a paper of the plan."""
    if type(value) is not dict or {type(key) for key in value} > {int} or set(value) != set(plan[0] + plan[1]):
        return False
    return all(type(key) is int and type(reason) is tuple and all(type(part) is int for part in reason)
               and reason in all_reasons(web, plan, key) for key, reason in value.items())


@functools.lru_cache(maxsize=None)
def least_for_all(web):
    """Return a dict from all lengths of a small web to the least trees."""
    every = itertools.product(*[range(row[2], row[3] + 1) for row in web[1]])
    return {lengths: least(web, lengths) for lengths in every}


def holds(web, plan, every=None):
    """Return whether a plan serves all lengths of a small web, or all of those that are given."""
    if every is not None:
        return all(plan_serves(web, plan, lengths) for lengths in every)
    built, dropped = map(set, plan)
    return all(any(built <= set(tree) and not dropped & set(tree) for tree in trees)
               for trees in least_for_all(web).values())


def with_step(plan, step):
    """Return the plan with a step taken."""
    built, dropped = [set(part) for part in plan]
    (built if step[0] == "build" else dropped).add(step[1])
    return tuple(sorted(built)), tuple(sorted(dropped))


def lo(web, road):
    return web[1][road][2], road


def hi(web, road):
    return web[1][road][3], road


@functools.lru_cache(maxsize=None)
def first_for_all(web):
    """Return a dict from all lengths of a small web to the first least tree."""
    return {lengths: rows[0] for lengths, rows in least_for_all(web).items()}


def only_first(web, bounds):
    """Return whether the first tree of a small web is the same for all lengths within narrower bounds."""
    every = itertools.product(*[range(low, high + 1) for low, high in bounds])
    first = first_for_all(web)
    return len({first[lengths] for lengths in every}) == 1


def is_fixed(web):
    return only_first(web, [row[2:] for row in web[1]])


def fixed_paper_ok(web, value):
    """Return whether any value is a fixed paper, by point [19]."""
    if type(value) is not tuple or len(value) != 2 or type(value[0]) is not tuple or type(value[1]) is not dict:
        return False
    tree, ways = value
    if not all(type(road) is int for road in (*tree, *ways)) or tree not in all_trees(web):
        return False
    return (set(ways) == set(range(len(web[1]))) - set(tree)
            and all(type(way) is tuple and all(type(part) is int for part in way) and way in all_detours(web, road)
                    and set(way) <= set(tree) and all(hi(web, one) < lo(web, road) for one in way)
                    for road, way in ways.items()))


def lower_others(web, road, side):
    """Return the other crossing roads of a side that have a lesser lo."""
    return tuple(one for one in all_crossing(web, side) if one != road and lo(web, one) < lo(web, road))


def witness_ok(web, value):
    """Return whether any value is a witness, by point [20]."""
    if type(value) is not tuple or len(value) != 4 or type(value[0]) is not int:
        return False
    road, *ways = value
    if road not in range(len(web[1])) or any(type(way) is not tuple for way in ways):
        return False
    way, side, others = ways
    if not all(type(part) is int for part in way + side + others):
        return False
    return (way in all_detours(web, road) and all(hi(web, one) < hi(web, road) for one in way)
            and side in all_sides(web, road) and others == lower_others(web, road, side)
            and all(lo(web, road) < hi(web, one) for one in others))


def tight_ok(web, value):
    if not witness_ok(web, value):
        return False
    way, others = value[1], value[3]
    return not others or (len(others) == 1 and others[0] in way
                          and all(lo(web, one) < hi(web, others[0]) for one in way if one != others[0]))


def all_witnesses(web):
    """Return all witnesses of a web."""
    return [(road, way, side, lower_others(web, road, side)) for road in range(len(web[1]))
            for way in all_detours(web, road) for side in all_sides(web, road)
            if witness_ok(web, (road, way, side, lower_others(web, road, side)))]


def tree_pairs(web, lengths):
    """Return all pairs of point [21] for some lengths."""
    tree = least(web, lengths)[0]
    return [(one, road) for road in range(len(web[1])) if road not in tree
            for way in all_detours(web, road) if set(way) <= set(tree) for one in way]


def grounds(web, lengths):
    """Return a dict from all compulsory roads to their grounds."""
    found = {}
    for one, other in tree_pairs(web, lengths):
        if hi(web, one) > (lengths[other], other):
            found.setdefault(one, []).append(other)
        if (lengths[one], one) > lo(web, other):
            found.setdefault(other, []).append(one)
    return found


def free_pairs(web, lengths):
    """Return, in ascending order, the unsure pairs of which no road is compulsory."""
    known = grounds(web, lengths)
    return sorted((one, other) for one, other in tree_pairs(web, lengths)
                  if hi(web, one) > lo(web, other) and one not in known and other not in known)


def all_choices(web):
    """Return all ascending tuples of roads."""
    roads = range(len(web[1]))
    return [chosen for many in range(len(web[1]) + 1) for chosen in itertools.combinations(roads, many)]


def fixing_choices(web, lengths):
    """Return all ascending tuples of roads that fix the tree, by the remark in point [21]."""
    known, pairs = set(grounds(web, lengths)), free_pairs(web, lengths)
    return [chosen for chosen in all_choices(web) if known <= set(chosen) and all(set(pair) & set(chosen)
                                                                                 for pair in pairs)]


def cheapest_ok(web, lengths, prices, value):
    """Return whether any value is a cheapest paper, by point [22]."""
    if type(value) is not tuple or len(value) != 2 or type(value[0]) is not tuple or type(value[1]) is not dict:
        return False
    roads, payments = value
    if not all(type(road) is int for road in roads) or roads not in fixing_choices(web, lengths):
        return False
    if not all(type(pair) is tuple and [type(road) for road in pair] == [int] * 2 for pair in payments):
        return False
    if not set(payments) <= set(free_pairs(web, lengths)):
        return False
    if not all(type(amount) is int and amount > 0 for amount in payments.values()):
        return False
    if any(sum(payments[pair] for pair in payments if road in pair) > price for road, price in enumerate(prices)):
        return False
    return sums(prices, roads) == sums(prices, grounds(web, lengths)) + sum(payments.values())
