import itertools
import unittest

from oracles import least, least_sum, reached, sums
from roughroads.shares import fair_shares, find_refusing, group_cost, is_shares
from samples import ALONE, BEYOND, CLEAR, LARGE, LINE, ROUGH, SMALL, TWIN
from samples import all_lengths, drawn_webs, misshapen, near, odd_values

STAR = (4, ((0, 1, 1, 9), (0, 2, 1, 9), (0, 3, 1, 9), (1, 2, 1, 9), (2, 3, 1, 9)))
TRIED = SMALL + drawn_webs(30) + [STAR]


def all_groups(web):
    houses = range(1, web[0])
    return sorted(group for many in range(1, web[0]) for group in itertools.combinations(houses, many))


def cost(web, lengths, group):
    """Return the cost of a group, by trying all sets of roads between its houses and house 0."""
    houses = {0, *group}
    inside = [road for road, row in enumerate(web[1]) if {row[0], row[1]} <= houses]
    found = [sums(lengths, roads) for many in range(len(inside) + 1) for roads in itertools.combinations(inside, many)
             if reached([web[1][road] for road in roads], 0) == houses]
    return min(found) if found else None


def refusing(web, lengths, shares):
    """Return all groups that refuse some shares."""
    costs = {group: cost(web, lengths, group) for group in all_groups(web)}
    return [group for group in costs if costs[group] is not None
            and sum(shares[house] for house in group) > costs[group]]


def some_lengths(web):
    """Return some lengths of a web, of large ones those at their lows, at their highs and half between."""
    if web in LARGE + [STAR, BEYOND]:
        rows = web[1]
        return [tuple(low + (high - low) * by // 2 for _, _, low, high in rows) for by in (0, 2, 1)]
    every = all_lengths(web)
    return every[::max(1, len(every) // 7)]


def first_roads(web, tree):
    """Return for each house but 0 the first road on its way to house 0 in a tree: without it house 0 is cut off."""
    found = {}
    for house in range(1, web[0]):
        touching = [road for road in tree if house in web[1][road][:2]]
        found[house], = [road for road in touching
                         if house not in reached([web[1][other] for other in tree if other != road], 0)]
    return found


class CostTest(unittest.TestCase):
    def test_examples(self):
        self.assertEqual([fair_shares(ROUGH, (3, 2, 3)), group_cost(ROUGH, (3, 2, 3), (1, 2)),
                          group_cost(LINE, (1, 2, 3), (2,))], [(0, 3, 2), 5, None])
        self.assertEqual([find_refusing(ROUGH, (3, 2, 3), (0, 3, 2)), find_refusing(ROUGH, (3, 2, 3), (0, 1, 4))],
                         [None, (2,)])

    def test_against_all_sets_of_roads(self):
        seen = set()
        for web in TRIED:
            for lengths in some_lengths(web):
                for group in all_groups(web):
                    right = cost(web, lengths, group)
                    self.assertEqual(group_cost(web, lengths, group), right, (web, lengths, group))
                    seen.add(right is None)
        self.assertEqual(seen, {False, True})

    def test_large_webs(self):
        for web in LARGE:
            for lengths in some_lengths(web):
                for group in all_groups(web)[::3]:
                    self.assertEqual(group_cost(web, lengths, group), cost(web, lengths, group), (web, lengths, group))

    def test_groups_that_cannot_be_joined(self):
        for group, right in [((1,), 1), ((2,), None), ((3,), None), ((1, 2), 3), ((1, 3), None), ((2, 3), None),
                             ((1, 2, 3), 6)]:
            self.assertEqual(group_cost(LINE, (1, 2, 3), group), right, group)

    def test_roads_of_length_0(self):
        web = (3, ((0, 1, 0, 0), (1, 2, 0, 5), (0, 2, 0, 5)))
        self.assertEqual([group_cost(web, (0, 5, 3), (2,)), group_cost(web, (0, 2, 3), (1, 2)),
                          group_cost(web, (0, 0, 0), (1, 2))], [3, 2, 0])


class FairSharesTest(unittest.TestCase):
    def test_against_the_first_least_tree(self):
        several = 0
        for web in TRIED + LARGE:
            for lengths in some_lengths(web):
                trees = least(web, lengths)
                roads = first_roads(web, trees[0])
                shares = fair_shares(web, lengths)
                self.assertEqual(shares, (0, *[lengths[roads[house]] for house in range(1, web[0])]), (web, lengths))
                self.assertIs(type(shares), tuple)
                others = [first_roads(web, tree) for tree in trees]
                several += len({tuple(lengths[road] for road in roads.values()) for roads in others}) > 1
        self.assertGreater(several, 5)

    def test_several_least_trees(self):
        web = (3, ((1, 2, 1, 5), (0, 1, 1, 5), (0, 2, 1, 5)))
        self.assertEqual([fair_shares(web, (1, 3, 3)), fair_shares(web, (3, 3, 3)), fair_shares(web, (2, 1, 1))],
                         [(0, 3, 1), (0, 3, 3), (0, 1, 1)])
        self.assertEqual(fair_shares((3, (web[1][0], web[1][2], web[1][1])), (1, 3, 3)), (0, 1, 3))

    def test_one_house_and_rows_of_houses(self):
        self.assertEqual([fair_shares(ALONE, ()), fair_shares(LINE, (1, 2, 3)), fair_shares(TWIN, (5, 5))],
                         [(0,), (0, 1, 2, 3), (0, 5)])
        web = (4, ((1, 3, 4, 4), (0, 3, 2, 2), (1, 2, 1, 1)))
        self.assertEqual(fair_shares(web, (4, 2, 1)), (0, 4, 1, 2))

    def test_no_group_refuses(self):
        for web in TRIED + LARGE + [BEYOND]:
            for lengths in some_lengths(web):
                shares = fair_shares(web, lengths)
                self.assertIs(is_shares(web, lengths, shares), True)
                self.assertIsNone(find_refusing(web, lengths, shares), (web, lengths))


class IsSharesTest(unittest.TestCase):
    def test_small_numbers(self):
        for web, lengths in [(ROUGH, (3, 2, 3)), (CLEAR, (1, 1, 5)), (LINE, (1, 2, 3)), (TWIN, (5, 5))]:
            right = least_sum(web, lengths)
            for value in itertools.product(range(-1, right + 2), repeat=web[0]):
                expected = value[0] == 0 and min(value) >= 0 and sum(value) == right
                self.assertIs(is_shares(web, lengths, value), expected, (web, value))

    def test_sum_one_off(self):
        for web in TRIED + LARGE:
            if web[0] > 1:
                for lengths in some_lengths(web):
                    shares = fair_shares(web, lengths)
                    for by in (-1, 1, 2):
                        value = shares[:-1] + (shares[-1] + by,)
                        self.assertIs(is_shares(web, lengths, value), False, (web, value))

    def test_numbers_below_0_and_house_0(self):
        for value, right in [((0, 5, 0), True), ((0, 0, 5), True), ((0, -1, 6), False), ((0, 6, -1), False),
                             ((1, 2, 2), False), ((5, 0, 0), False), ((-1, 3, 3), False), ((1, 3, 2), False)]:
            self.assertIs(is_shares(ROUGH, (3, 2, 3), value), right, value)

    def test_too_many_or_too_few(self):
        for value in [(), (0,), (0, 5), (5,), (0, 3, 2, 0), (0, 3, 2, 0, 0), (0, 0, 3, 2), (3, 2)]:
            self.assertIs(is_shares(ROUGH, (3, 2, 3), value), False, value)
        for value in [(), (0, 0), (1,), (-1,), (False,), [0], 0]:
            self.assertIs(is_shares(ALONE, (), value), False, value)
        self.assertIs(is_shares(ALONE, (), (0,)), True)

    def test_bools(self):
        web = (3, ((0, 1, 1, 1), (1, 2, 1, 1)))
        self.assertIs(is_shares(web, (1, 1), (0, 1, 1)), True)
        for value in [(False, 1, 1), (0, True, 1), (0, 1, True), (False, True, True)]:
            self.assertIs(is_shares(web, (1, 1), value), False, value)
        self.assertIs(is_shares(web, (1, 1), (0, 2, False)), False)

    def test_misshapen_and_near(self):
        for value in misshapen((0, 3, 2)):
            self.assertIs(is_shares(ROUGH, (3, 2, 3), value), False, value)
        for value in near((0, 3, 2), 6):
            right = type(value) is tuple and len(value) == 3 and all(type(part) is int for part in value) and (
                value[0] == 0 and min(value) >= 0 and sum(value) == 5)
            self.assertIs(is_shares(ROUGH, (3, 2, 3), value), right, value)

    def test_any_value(self):
        for value in odd_values():
            self.assertIs(is_shares(ROUGH, (3, 2, 3), value), False)
            for at in range(3):
                shares = (0, 3, 2)[:at] + (value,) + (0, 3, 2)[at + 1:]
                self.assertIs(is_shares(ROUGH, (3, 2, 3), shares), shares == (0, 3, 2) and type(value) is int)


class RefusingTest(unittest.TestCase):
    def test_first_of_all_groups(self):
        seen = set()
        for web in TRIED:
            for lengths in some_lengths(web)[:4]:
                for shares in spread(web, lengths):
                    self.assertIs(is_shares(web, lengths, shares), True)
                    right = refusing(web, lengths, shares)
                    found = find_refusing(web, lengths, shares)
                    self.assertEqual(found, right[0] if right else None, (web, lengths, shares))
                    seen.add((len(right) > 1, len(found or ())))
        self.assertTrue({(False, 0), (False, 1), (True, 1), (False, 2), (True, 2), (False, 3)} <= seen, seen)

    def test_shares_of_which_a_group_pays_just_its_cost(self):
        self.assertEqual(find_refusing(ROUGH, (3, 2, 3), (0, 2, 3)), None)
        self.assertEqual(find_refusing(ROUGH, (3, 2, 3), (0, 4, 1)), (1,))
        self.assertEqual(find_refusing(TWIN, (5, 5), (0, 5)), None)
        # House 2 alone cannot be joined, so that it refuses nothing.
        self.assertEqual(find_refusing(LINE, (1, 2, 3), (0, 0, 0, 6)), None)
        self.assertEqual(find_refusing(LINE, (1, 2, 3), (0, 2, 4, 0)), (1,))
        self.assertEqual(find_refusing(LINE, (1, 2, 3), (0, 0, 4, 2)), (1, 2))

    def test_large_webs(self):
        for web in LARGE:
            for lengths in some_lengths(web):
                number = least_sum(web, lengths)
                for house in range(1, web[0]):
                    shares = tuple(number if other == house else 0 for other in range(web[0]))
                    right = refusing(web, lengths, shares)
                    self.assertEqual(find_refusing(web, lengths, shares), right[0] if right else None)


def spread(web, lengths):
    """Return some shares, fair and unfair ones."""
    number = least_sum(web, lengths)
    if web[0] == 1:
        return [(0,)]
    every = [tuple([0] + [number if other == house else 0 for other in range(1, web[0])]) for house in range(1, web[0])]
    fair = fair_shares(web, lengths)
    every += [fair]
    for one, other in itertools.permutations(range(1, web[0]), 2):
        for by in (1, 2):
            if fair[one] >= by:
                moved = list(fair)
                moved[one] -= by
                moved[other] += by
                every.append(tuple(moved))
    return every


if __name__ == "__main__":
    unittest.main()
