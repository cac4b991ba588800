import itertools
import unittest

from oracles import all_detours, all_plans, all_reasons, all_sides, all_trees, least, paper_ok, plan_serves
from roughroads.plans import find_breach, find_paper, is_paper, is_plan, serves
from samples import ALONE, BEYOND, CLEAR, LARGE, LINE, ROUGH, SMALL, TWIN
from samples import all_lengths, drawn_webs, is_one_of, misshapen, near, odd_values

# Webs that are small enough to try all their plans for all their lengths.
TRIED = [web for web in SMALL + drawn_webs(40) if len(all_lengths(web)) * 3 ** len(web[1]) <= 9000]
RING = (4, ((0, 1, 1, 2), (1, 2, 2, 3), (2, 3, 3, 4), (0, 3, 4, 9)))


def part_ok(web, value):
    """Return whether any value is an ascending tuple of roads, none twice."""
    return is_one_of(value, [()]) or (type(value) is tuple and all(type(part) is int for part in value)
                                      and value in [roads for many in range(len(web[1]) + 1) for roads in
                                                    itertools.combinations(range(len(web[1])), many)])


def wrong_reasons(web, plan, road):
    """Return values that are not reasons for a road, but for another one, of another kind, or nearly."""
    right = all_reasons(web, plan, road)
    ways = all_sides(web, road) + all_detours(web, road)
    ways += [way for other in range(len(web[1])) for way in all_sides(web, other) + all_detours(web, other)[:4]]
    ways += [value for way in right[:2] for value in near(way, max(web[0], len(web[1])))]
    return [way for way in ways if not is_one_of(way, right)]


class IsPlanTest(unittest.TestCase):
    def test_examples(self):
        self.assertEqual([is_plan(ROUGH, ((1,), (2,))), is_plan(ROUGH, ((1,), (1,)))], [True, False])

    def test_all_plans(self):
        for web in [ROUGH, LINE, TWIN, ALONE] + SMALL[6:11]:
            for plan in all_plans(web):
                self.assertIs(is_plan(web, plan), True, (web, plan))

    def test_large_webs(self):
        for web in LARGE:
            self.assertIs(is_plan(web, (tuple(range(10)), ())), True)
            self.assertIs(is_plan(web, ((0, 2, 4, 6, 8), (1, 3, 5, 7, 9))), True)
            self.assertIs(is_plan(web, ((0, 2, 4, 6, 8), (1, 3, 5, 7, 8))), False)
            self.assertIs(is_plan(web, ((), (10,))), False)

    def test_twice_in_both_or_out_of_order(self):
        for value in [((0, 0), ()), ((), (1, 1)), ((0, 1, 1), (2,)), ((1, 0), ()), ((), (2, 1)), ((0, 2, 1), ()),
                      ((0,), (0,)), ((0, 1), (1, 2)), ((0, 1, 2), (0, 1, 2)), ((2,), (0, 1, 2))]:
            self.assertIs(is_plan(ROUGH, value), False, value)

    def test_roads_that_do_not_exist(self):
        for road in [-1, 3, 10, -3, 10 ** 59, -(10 ** 59)]:
            for value in [((road,), ()), ((), (road,)), ((0, road), ()), ((road, 1), (2,)), ((0,), (1, road))]:
                self.assertIs(is_plan(ROUGH, value), False, value)
        self.assertIs(is_plan(ALONE, ((), ())), True)
        for value in [((0,), ()), ((), (0,))]:
            self.assertIs(is_plan(ALONE, value), False, value)

    def test_kinds(self):
        for value in [((False,), ()), ((), (True,)), ((0, True), ()), ((False, 1), (2,)), ([0], ()), ((0,), []),
                      [(0,), ()], [[], []], [(), ()], ({}, {}), ((), {}), ("", ""), ((), ""), (None, ()), ((), None),
                      (0, 1), (0, ()), ((0,), 1), (("0",), ()), (((0,),), ()), {(): ()}, {0: (), 1: ()}]:
            self.assertIs(is_plan(ROUGH, value), False, value)

    def test_parts_too_many_or_too_few(self):
        for value in [(), ((),), ((0,),), ((), (), ()), ((0,), (1,), (2,)), ((0,), (1,), ()), (((), ()), ()),
                      (((), ()),), (0, 1, 2)]:
            self.assertIs(is_plan(ROUGH, value), False, value)

    def test_misshapen_and_near(self):
        for web in [ROUGH, TWIN, SMALL[6], SMALL[10]]:
            for plan in [((0,), (1,)), ((0, 1), ()), ((), (0, 1)), ((1,), (0,))]:
                for value in misshapen(plan):
                    self.assertIs(is_plan(web, value), False, value)
                for value in near(plan[0], len(web[1])):
                    right = part_ok(web, value)
                    for other in [(), (0,), (1,)]:
                        expected = right and not set(value) & set(other)
                        self.assertIs(is_plan(web, (value, other)), expected, (value, other))
                        self.assertIs(is_plan(web, (other, value)), expected, (other, value))

    def test_any_value(self):
        for value in odd_values():
            for web in [ROUGH, ALONE]:
                self.assertIs(is_plan(web, value), False)
                for part in [((value,), ()), ((), (value,)), ((), (), value), (value,)]:
                    self.assertIs(is_plan(web, part), web == ROUGH and value in (0, 1) and type(value) is int
                                  and part in [((value,), ()), ((), (value,))])
                if value != ():
                    self.assertIs(is_plan(web, (value, ())), False)
                    self.assertIs(is_plan(web, ((), value)), False)


class ServesTest(unittest.TestCase):
    def test_examples(self):
        self.assertEqual([serves(ROUGH, ((0, 1), ()), (2, 2, 3)), serves(ROUGH, ((0, 1), ()), (4, 2, 3))],
                         [True, False])

    def test_against_least_trees(self):
        seen = set()
        for web in TRIED:
            for plan in all_plans(web):
                for lengths in all_lengths(web)[::3]:
                    right = plan_serves(web, plan, lengths)
                    self.assertIs(serves(web, plan, lengths), right, (web, plan, lengths))
                    seen.add((right, bool(plan[0]), bool(plan[1])))
        self.assertEqual(len(seen), 7)

    def test_nothing_decided(self):
        for web in TRIED:
            for lengths in all_lengths(web):
                self.assertIs(serves(web, ((), ()), lengths), True)

    def test_built_roads_in_a_ring(self):
        for built in [(0, 1, 2), (0, 1, 2, 3)]:
            self.assertIs(serves(ROUGH, ((0, 1, 2), ()), (1, 2, 3)), False)
            self.assertIs(serves(LARGE[0], (built, ()), tuple(row[2] for row in LARGE[0][1])), False)
        self.assertIs(serves(TWIN, ((0, 1), ()), (5, 5)), False)
        # Also where the ring costs nothing.
        web = (3, ((0, 1, 0, 0), (1, 2, 0, 0), (0, 2, 0, 0)))
        self.assertIs(serves(web, ((0, 1, 2), ()), (0, 0, 0)), False)
        self.assertIs(serves(web, ((0, 2), ()), (0, 0, 0)), True)
        web = (4, ((0, 1, 0, 0), (0, 1, 0, 0), (1, 2, 0, 0), (2, 3, 0, 0)))
        self.assertIs(serves(web, ((0, 1), ()), (0, 0, 0, 0)), False)

    def test_dropped_roads_that_cut_houses_off(self):
        self.assertIs(serves(LINE, ((), (1,)), (1, 2, 3)), False)
        self.assertIs(serves(TWIN, ((), (0, 1)), (5, 5)), False)
        self.assertIs(serves((2, ((0, 1, 0, 0),)), ((), (0,)), (0,)), False)

    def test_ties(self):
        web = (3, ((0, 1, 1, 4), (1, 2, 2, 3), (0, 2, 3, 6)))
        for plan, right in [(((0,), (2,)), True), (((2,), (0,)), True), (((0, 2), (1,)), True),
                            (((0, 1, 2), ()), False), (((), (0, 2)), False)]:
            self.assertIs(serves(web, plan, (3, 3, 3)), right, plan)
        self.assertEqual([serves(TWIN, plan, (5, 5)) for plan in [((0,), (1,)), ((1,), (0,)), ((), (1,)), ((1,), ())]],
                         [True] * 4)

    def test_large_webs(self):
        for web in LARGE:
            for lengths in [tuple(row[2] for row in web[1]), tuple(row[3] for row in web[1])]:
                for tree in all_trees(web)[::30] + least(web, lengths):
                    others = tuple(road for road in range(10) if road not in tree)
                    for plan in [(tree, ()), ((), others), (tree, others), (tree[:3], others[:2])]:
                        self.assertIs(serves(web, plan, lengths), plan_serves(web, plan, lengths), (web, plan))


class PaperOrBreachTest(unittest.TestCase):
    def test_examples(self):
        self.assertEqual([find_paper(CLEAR, ((0, 1), (2,))), find_paper(ROUGH, ((1,), ())),
                          find_paper(ROUGH, ((0, 1), ()))], [{0: (0,), 1: (0, 1), 2: (0, 1)}, {1: (0, 1)}, None])
        self.assertEqual([find_breach(CLEAR, ((0, 1), (2,))), is_paper(ROUGH, ((1,), ()), {1: (1,)})], [None, False])

    def check(self, web, plan, every):
        paper, breach = find_paper(web, plan), find_breach(web, plan)
        wrong = [lengths for lengths in every if not plan_serves(web, plan, lengths)]
        if wrong:
            self.assertIsNone(paper, (web, plan))
            self.assertTrue(is_one_of(breach, wrong), (web, plan, breach))
            self.assertIs(serves(web, plan, breach), False)
        else:
            self.assertIsNone(breach, (web, plan))
            self.assertTrue(paper_ok(web, plan, paper), (web, plan, paper))
            self.assertIs(is_paper(web, plan, paper), True, (web, plan, paper))
        return not wrong

    def test_against_all_lengths(self):
        seen = set()
        for web in TRIED:
            every = all_lengths(web)
            for plan in all_plans(web):
                held = self.check(web, plan, every)
                seen.add((held, bool(plan[0]), bool(plan[1]), len(plan[0] + plan[1]) == len(web[1])))
        # Plans of built roads alone, of dropped roads alone, of both and of none; with all roads decided, too.
        self.assertEqual(len(seen), 13)

    def test_no_decisions(self):
        for web in SMALL + LARGE + [BEYOND]:
            self.assertEqual([find_paper(web, ((), ())), find_breach(web, ((), ()))], [{}, None])
            self.assertIs(is_paper(web, ((), ()), {}), True)

    def test_ring_of_which_the_longest_road_is_dropped(self):
        self.assertEqual(find_paper(RING, ((), (3,))), {3: (0, 1, 2)})
        self.check(RING, ((), (2,)), all_lengths(RING))
        paper = find_paper(RING, ((0, 1, 2), (3,)))
        self.assertTrue(paper_ok(RING, ((0, 1, 2), (3,)), paper))
        self.assertEqual(find_paper(RING, ((0, 1, 2, 3), ())), None)
        self.assertFalse(plan_serves(RING, ((0, 1, 2, 3), ()), find_breach(RING, ((0, 1, 2, 3), ()))))

    def test_touching_bounds(self):
        for high, held in [(4, True), (5, True), (6, False)]:
            web = (2, ((0, 1, 2, high), (0, 1, 5, 9)))
            for plan in [((0,), ()), ((), (1,)), ((0,), (1,))]:
                self.assertEqual([find_paper(web, plan) is not None, find_breach(web, plan) is None], [held] * 2)
        self.assertEqual([find_breach(web, ((0,), ())), find_breach(web, ((), (1,)))], [(6, 5), (6, 5)])

    def test_reasons_that_rest_on_other_decisions(self):
        # Road 0 may be built only because road 1 is dropped, and road 1 dropped only while road 2 is not.
        web = (2, ((0, 1, 2, 7), (0, 1, 5, 9), (0, 1, 5, 5)))
        self.assertEqual([find_paper(web, ((0,), (1,))), find_paper(web, ((), (1,)))], [None, {1: (2,)}])
        self.assertEqual(find_paper(web, ((), (1, 2))), None)
        web = (2, ((0, 1, 5, 5), (0, 1, 5, 5), (0, 1, 5, 9)))
        self.assertEqual(find_paper(web, ((1,), (0, 2))), {0: (1,), 1: (0,), 2: (1,)})

    def test_large_webs(self):
        for web in LARGE + [BEYOND]:
            for tree in all_trees(web)[::20]:
                others = tuple(road for road in range(len(web[1])) if road not in tree)
                for plan in [(tree, others), (tree[:2], ()), ((), others[2:]), (tree, ()), ((), others)]:
                    paper, breach = find_paper(web, plan), find_breach(web, plan)
                    self.assertIs(paper is None, breach is not None)
                    if breach is None:
                        self.assertTrue(paper_ok(web, plan, paper))
                        self.assertIs(is_paper(web, plan, paper), True)
                    else:
                        self.assertFalse(plan_serves(web, plan, breach))
                        self.assertTrue(all(row[2] <= length <= row[3] for length, row in zip(breach, web[1])))


class IsPaperTest(unittest.TestCase):
    def test_all_reasons(self):
        for web in TRIED[:25]:
            for plan in all_plans(web)[::2]:
                paper = find_paper(web, plan)
                if paper is None:
                    for value in [{}, {road: (0,) for road in plan[0] + plan[1]}]:
                        self.assertIs(is_paper(web, plan, value), False)
                    continue
                for road in paper:
                    for reason in all_reasons(web, plan, road):
                        self.assertIs(is_paper(web, plan, {**paper, road: reason}), True, (web, plan, road, reason))

    def test_wrong_reasons(self):
        for web in TRIED[:16]:
            for plan in all_plans(web)[::5]:
                paper = find_paper(web, plan) or {}
                for road in paper:
                    for reason in wrong_reasons(web, plan, road):
                        self.assertIs(is_paper(web, plan, {**paper, road: reason}), False, (web, plan, road, reason))

    def test_wrong_papers_of_plans_that_do_not_hold(self):
        plan = ((0, 1), ())
        for one in [(0,), (0, 2), (0, 1), (1,), (0, 1, 2), (), (2, 1)]:
            for two in [(0, 1), (1,), (0,), (0, 2), (2, 0)]:
                self.assertIs(is_paper(ROUGH, plan, {0: one, 1: two}), False)

    def test_another_kind(self):
        plan = ((0, 1), (2,))
        paper = {0: (0,), 1: (0, 1), 2: (0, 1)}
        self.assertIs(is_paper(CLEAR, plan, paper), True)
        for road, reason in [(2, (0,)), (2, (0, 2)), (0, (2, 1)), (1, (0, 2)), (0, (1,)), (1, (2,)), (2, (1, 0)),
                             (0, (0, 1)), (1, (0,)), (0, ()), (2, ()), (1, (1, 0)), (0, (0, 0))]:
            self.assertIs(is_paper(CLEAR, plan, {**paper, road: reason}), False, (road, reason))

    def test_another_road(self):
        web = (4, ((0, 1, 1, 1), (1, 2, 1, 1), (2, 3, 1, 1), (0, 2, 5, 9), (1, 3, 5, 9)))
        plan = ((0, 1, 2), (3, 4))
        paper = find_paper(web, plan)
        self.assertEqual(paper, {0: (0,), 1: (0, 1), 2: (0, 1, 2), 3: (0, 1), 4: (1, 2)})
        for one, other in itertools.permutations(paper, 2):
            right = paper[other] in all_reasons(web, plan, one)
            self.assertIs(is_paper(web, plan, {**paper, one: paper[other]}), right, (one, other))
        self.assertIs(is_paper(web, plan, {**paper, 3: (1, 2), 4: (0, 1)}), False)

    def test_keys(self):
        plan = ((0, 1), (2,))
        paper = {0: (0,), 1: (0, 1), 2: (0, 1)}
        for value in [{}, {0: (0,), 1: (0, 1)}, {1: (0, 1), 2: (0, 1)}, {**paper, 3: (0, 1)}, {**paper, -1: (0,)},
                      {**paper, None: (0,)}, {**paper, "0": (0,)}, {**paper, (0,): (0,)}, {**paper, 10 ** 59: ()},
                      {0: (0,), 1: (0, 1), 3: (0, 1)}, {"0": (0,), "1": (0, 1), "2": (0, 1)},
                      {0: (0,), 1: (0, 1), -1: (0, 1)}, {0: (0, 1), 1: (0,), 2: (0, 1)}, {(0,): 0, (0, 1): 1},
                      {None: None, "a": 0, (): 1}]:
            self.assertIs(is_paper(CLEAR, plan, value), False, value)
        for value in [{1: (0, 1)}, {0: (0,)}, {0: (0,), 1: (0, 1)}]:
            self.assertIs(is_paper(ROUGH, ((), ()), value), False)
        self.assertIs(is_paper(ROUGH, ((1,), ()), {0: (0, 1)}), False)
        self.assertIs(is_paper(ROUGH, ((1,), ()), {0: (0, 1), 1: (0, 1)}), False)

    def test_bools_as_keys(self):
        plan = ((0, 1), (2,))
        for value in [{False: (0,), 1: (0, 1), 2: (0, 1)}, {0: (0,), True: (0, 1), 2: (0, 1)},
                      {False: (0,), True: (0, 1), 2: (0, 1)}]:
            self.assertIs(is_paper(CLEAR, plan, value), False, value)
        self.assertIs(is_paper(ROUGH, ((1,), ()), {True: (0, 1)}), False)
        self.assertIs(is_paper(TWIN, ((0,), ()), {False: (0,)}), False)

    def test_other_order_of_keys(self):
        plan = ((0, 1), (2,))
        paper = {0: (0,), 1: (0, 1), 2: (0, 1)}
        for keys in itertools.permutations(paper):
            self.assertIs(is_paper(CLEAR, plan, {key: paper[key] for key in keys}), True, keys)

    def test_detours_that_come_to_a_house_twice(self):
        rows = ((0, 1, 9, 9), (0, 2, 1, 1), (2, 3, 1, 1), (2, 3, 1, 1), (1, 3, 1, 1), (2, 4, 1, 1), (3, 4, 1, 1))
        right = [(1, 2, 4), (1, 3, 4), (1, 5, 6, 4)]
        wrong = [(1, 2, 3, 2, 4), (1, 2, 2, 3, 4), (1, 5, 6, 2, 3, 4), (1, 2, 6, 5, 3, 4), (1, 1, 1, 2, 4),
                 (1, 2, 4, 4, 4), (1, 4), (4, 2, 1), (1, 2), (0,), (1, 2, 4, 0), (1, 2, 6, 4)]
        for reason in right + wrong:
            self.assertIs(is_paper((5, rows), ((), (0,)), {0: reason}), reason in right, reason)

    def test_lists_and_bools_in_reasons(self):
        plan = ((0, 1), (2,))
        paper = {0: (0,), 1: (0, 1), 2: (0, 1)}
        for road, reason in [(0, [0]), (1, [0, 1]), (2, [0, 1]), (0, (False,)), (1, (False, 1)), (1, (0, True)),
                             (2, (0, True)), (2, (False, True)), (0, 0), (0, ((0,),)), (0, {0: 0}), (0, "0"),
                             (0, None)]:
            self.assertIs(is_paper(CLEAR, plan, {**paper, road: reason}), False, (road, reason))

    def test_any_value(self):
        plans = [(CLEAR, ((0, 1), (2,)), {0: (0,), 1: (0, 1), 2: (0, 1)}), (ROUGH, ((1,), ()), {1: (0, 1)}),
                 (CLEAR, ((), (2,)), {2: (0, 1)}), (ROUGH, ((), ()), {}), (ALONE, ((), ()), {})]
        for web, plan, paper in plans:
            for value in odd_values() + [[(0, paper)], (paper,), [paper], list(paper.items()), tuple(paper.items())]:
                self.assertIs(is_paper(web, plan, value), value == {} == paper and type(value) is dict)
                for road in paper:
                    self.assertIs(is_paper(web, plan, {**paper, road: value}), False)
        self.assertIs(is_paper(CLEAR, plans[0][1], {key: (0,) for key in range(10000)}), False)


if __name__ == "__main__":
    unittest.main()
