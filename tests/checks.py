"""What several tests ask in the same way: of used and of needed roads, and of objects that are equal or not."""
from oracles import all_crossing, all_detours, all_sides, in_all, in_some, least
from samples import all_lengths, is_one_of, near, odd_values


def found_for_all(web, kind):
    """Return the lengths of the web, each with the roads that are used, or needed, for them."""
    roads = in_some if kind == "used" else in_all
    return {lengths: roads(web, least(web, lengths)) for lengths in all_lengths(web)}


def check_found(case, web, kind, find_yes, find_no, find_detour, find_side, is_detour, is_side):
    """Check for each road that the one of two things is found that exists, and that it is right."""
    by_lengths = found_for_all(web, kind)
    for road in range(len(web[1])):
        yes = [lengths for lengths in by_lengths if road in by_lengths[lengths]]
        no = [lengths for lengths in by_lengths if road not in by_lengths[lengths]]
        for find, right, reason, is_reason, ways in [
                (find_yes, yes, find_detour, is_detour, all_detours(web, road)),
                (find_no, no, find_side, is_side, all_sides(web, road))]:
            lengths, found = find(web, road), reason(web, road)
            if right:
                case.assertTrue(is_one_of(lengths, right), (web, road, lengths))
                case.assertIsNone(found, (web, road))
                case.assertFalse([way for way in ways if is_reason(web, road, way)], (web, road))
            else:
                case.assertIsNone(lengths, (web, road))
                case.assertTrue(is_one_of(found, ways), (web, road, found))
                case.assertIs(is_reason(web, road, found), True, (web, road, found))


def right_detours(web, road, strictly):
    """Return the detours whose highs are all less than (or at most) the low of the road."""
    low = web[1][road][2]
    return [way for way in all_detours(web, road)
            if max(web[1][other][3] for other in way) < low + (not strictly)]


def right_sides(web, road, strictly):
    """Return the sides with the high of the road less than (or at most) all lows of the other crossing roads."""
    high = web[1][road][3]
    return [side for side in all_sides(web, road)
            if not [other for other in all_crossing(web, side)
                    if other != road and web[1][other][2] < high + strictly]]


def check_values(case, webs, is_right, right_of, ways_of, strictly):
    """Check a function that tells right detours or sides, over all of them and what is near to some."""
    for web in webs:
        for road in range(len(web[1])):
            right = right_of(web, road, strictly)
            for way in ways_of(web, road):
                case.assertIs(is_right(web, road, way), way in right, (web, road, way))
            for way in right[:3] + ways_of(web, road)[-1:]:
                for value in near(way, max(web[0], len(web[1]))):
                    case.assertIs(is_right(web, road, value), is_one_of(value, right), (web, road, value))
            for other in range(len(web[1])):
                for way in ways_of(web, other)[:6]:
                    case.assertIs(is_right(web, road, way), way in right, (web, road, way))


def check_odd(case, web, road, is_right, right):
    """Check that no odd value is taken for a right one, as a whole or as a part of one."""
    case.assertIs(is_right(web, road, right), True)
    for value in odd_values() + [(), []]:
        case.assertIs(is_right(web, road, value), False)
        case.assertIs(is_right(web, road, right + (value,)), False)
        if not is_one_of((value,), [right[:1]]):
            case.assertIs(is_right(web, road, (value,) + right[1:]), False)


def check_walks(case, is_right, low):
    """Check walks from house 0 to house 1, past roads so short that only a wrong way makes them wrong."""
    # Three roads in a row, the last one with a twin, and a round on it that must not be walked.
    rows = ((0, 1, low, 9), (0, 2, 1, 2), (2, 3, 1, 2), (1, 3, 1, 2), (1, 3, 1, 2), (2, 4, 1, 1), (3, 4, 1, 1),
            (0, 2, 1, low + 1))
    right = [(1, 2, 3), (1, 2, 4), (1, 5, 6, 3), (1, 5, 6, 4)]
    wrong = [(), (0,), (1, 2), (2, 3), (1, 3), (3, 2, 1), (1, 2, 2, 3), (1, 2, 3, 3), (1, 1, 2, 3), (1, 2, 3, 1),
             (1, 2, 3, 0), (0, 1, 2, 3), (7, 2, 3), (1, 7, 1, 2, 3), (1, 2, 3, 4, 3), (1, 2, 3, 3, 4),
             (1, 2, 6, 5, 2, 3), (1, 5, 6, 2, 5, 6, 3), (1, 2, 3, 8), (1, 2, -5), (-7, 2, 3), [1, 2, 3],
             (1, 2, [3]), ((1, 2, 3),), (True, 2, 3)]
    check_each(case, (5, rows), is_right, right, wrong)
    # A road beside each other one, so that walks can come twice to the first house, to the last one or between.
    pairs = [(0, 2), (0, 3), (2, 3), (0, 2), (1, 2), (1, 3), (1, 4), (3, 4)]
    rows = ((0, 1, low, 9),) + tuple((a, b, 0, 0) for a, b in pairs)
    right = [(1, 5), (4, 5), (1, 3, 6), (2, 3, 5), (2, 8, 7), (1, 3, 8, 7)]
    wrong = [(1, 4, 2, 6), (1, 4, 1, 5), (1, 3, 2, 4, 5), (1, 3, 3, 5), (2, 6, 7, 8, 6), (1, 5, 6, 8, 7),
             (1, 5, 7, 7), (2, 3, 4, 1, 5), (2, 3, 5, 6, 8, 7), (1, 1, 2, 6)]
    check_each(case, (5, rows), is_right, right, wrong)


def check_each(case, web, is_right, right, wrong):
    for value in right + wrong:
        case.assertIs(is_right(web, 0, value), is_one_of(value, right), value)


def check_beyond(case, webs, finds, right_of, strictly):
    """Check for webs of any size that a right way is found where there is one, and else lengths."""
    find_way, find_lengths = finds
    for web in webs:
        for road in range(len(web[1])):
            right = right_of(web, road, strictly)
            found, lengths = find_way(web, road), find_lengths(web, road)
            case.assertTrue(is_one_of(found, right) if right else found is None, (web, road, found))
            case.assertIs(lengths is None, bool(right), (web, road))
            if lengths is not None:
                case.assertEqual([row[2] <= length <= row[3] for length, row in zip(lengths, web[1], strict=True)],
                                 [True] * len(web[1]))


def check_equal(case, one, other, right):
    """Check by both signs and in both orders whether two values are equal."""
    case.assertIs(one == other, right)
    case.assertIs(other == one, right)
    case.assertIs(one != other, not right)
    case.assertIs(other != one, not right)
