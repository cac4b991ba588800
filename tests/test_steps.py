import itertools
import unittest

from oracles import all_plans, all_trees, holds, with_step
from roughroads.measuring import with_length
from roughroads.steps import clashes, completed, find_against, openers, options, taken
from samples import ALONE, BEYOND, CLEAR, LARGE, LINE, ROUGH, SMALL, TWIN, all_lengths, drawn_webs, is_one_of

# Webs that are small enough to try all steps of all their plans for all their lengths.
TRIED = [web for web in SMALL + [(2, ((0, 1, 0, 2), (0, 1, 1, 3)))] + drawn_webs(40)
         if len(all_lengths(web)) * 3 ** len(web[1]) <= 3000]
NOTHING = ((), ())


def all_steps(web, plan):
    """Return all steps in ascending order."""
    return sorted((word, road) for word in ("build", "drop") for road in range(len(web[1]))
                  if road not in plan[0] + plan[1])


def held_plans(web):
    return [plan for plan in all_plans(web) if holds(web, plan)]


def open_steps(web, plan):
    return [step for step in all_steps(web, plan) if holds(web, with_step(plan, step))]


class StepsTest(unittest.TestCase):
    def test_examples(self):
        self.assertEqual([options(ROUGH, NOTHING), options(ROUGH, ((1,), ())), taken(((1,), ()), ("drop", 0))],
                         [[("build", 1)], [], ((1,), (0,))])
        self.assertEqual([openers(ROUGH, ((1,), ()), ("build", 0)), openers(ROUGH, ((1,), ()), ("drop", 2))],
                         [[0, 2], [0, 2]])
        self.assertEqual(clashes(TWIN, NOTHING), [(("build", 0), ("build", 1)), (("drop", 0), ("drop", 1))])
        self.assertEqual([completed(CLEAR, NOTHING), completed(ROUGH, NOTHING), completed(TWIN, NOTHING)],
                         [((0, 1), (2,)), ((1,), ()), ((0,), (1,))])

    def test_taken_keeps_both_parts_ascending(self):
        for web in SMALL[:5] + SMALL[9:12]:
            for plan in all_plans(web):
                for step in all_steps(web, plan):
                    self.assertEqual(taken(plan, step), with_step(plan, step))
        self.assertEqual(taken(((0, 4), (2, 9)), ("build", 3)), ((0, 3, 4), (2, 9)))
        self.assertEqual(taken(((0, 4), (2, 9)), ("drop", 1)), ((0, 4), (1, 2, 9)))
        self.assertEqual(taken(((3, 4), (2,)), ("drop", 9)), ((3, 4), (2, 9)))

    def test_options_and_what_speaks_against(self):
        seen = set()
        for web in TRIED:
            for plan in held_plans(web):
                right = open_steps(web, plan)
                self.assertEqual(options(web, plan), right, (web, plan))
                for step in all_steps(web, plan):
                    found = find_against(web, plan, step)
                    seen.add((step[0], found is None))
                    if step in right:
                        self.assertIsNone(found, (web, plan, step))
                    else:
                        self.assertTrue(is_one_of(found, all_lengths(web)), (web, plan, step))
                        self.assertFalse(holds(web, with_step(plan, step), (found,)), (web, plan, step))
        self.assertEqual(len(seen), 4, seen)

    def test_order_of_options(self):
        web = (3, ((0, 2, 7, 9), (0, 1, 1, 1), (1, 2, 2, 3), (0, 2, 5, 8)))
        self.assertEqual(options(web, NOTHING), [("build", 1), ("build", 2), ("drop", 0), ("drop", 3)])
        self.assertEqual(options(web, ((1,), (0,))), [("build", 2), ("drop", 3)])

    def test_openers_against_all_lengths(self):
        seen = set()
        for web in [web for web in TRIED if len(all_lengths(web)) * 3 ** len(web[1]) <= 900]:
            for plan in held_plans(web):
                for step in all_steps(web, plan):
                    after = with_step(plan, step)
                    right = [road for road, row in enumerate(web[1])
                             if any(holds(with_length(web, road, length), after)
                                    for length in range(row[2], row[3] + 1))]
                    self.assertEqual(openers(web, plan, step), right, (web, plan, step))
                    seen.add((len(right) == len(web[1]), bool(right), holds(web, after)))
        self.assertEqual(len(seen), 4, seen)

    def test_openers_of_an_option(self):
        self.assertEqual(openers(ROUGH, NOTHING, ("build", 1)), [0, 1, 2])
        self.assertEqual(openers(CLEAR, ((0,), ()), ("drop", 2)), [0, 1, 2])
        self.assertEqual(openers(TWIN, NOTHING, ("drop", 1)), [0, 1])

    def test_openers_by_their_lows_or_highs_alone(self):
        web = (2, ((0, 1, 0, 99), (0, 1, 3, 40), (0, 1, 50, 60)))
        self.assertEqual([openers(web, NOTHING, ("build", 0)), openers(web, NOTHING, ("drop", 0))], [[0], [0]])
        self.assertEqual([openers(web, NOTHING, ("build", 1)), openers(web, NOTHING, ("drop", 1))], [[0], [0]])
        self.assertEqual([openers(web, NOTHING, ("build", 2)), openers(web, NOTHING, ("drop", 2))], [[], [0, 1, 2]])
        web = (4, ((0, 1, 0, 9), (1, 2, 0, 0), (2, 3, 0, 0), (0, 3, 5, 5), (0, 3, 5, 5)))
        self.assertEqual(openers(web, ((1, 2), (3,)), ("build", 4)), [0])
        self.assertEqual(openers(web, ((1, 2), ()), ("drop", 4)), [0, 1, 2, 3, 4])

    def test_decided_roads_are_openers_of_options(self):
        web = (2, ((0, 1, 3, 9), (0, 1, 2, 3), (0, 1, 5, 6)))
        self.assertEqual([openers(web, ((), (0,)), ("drop", 1)), openers(web, ((), (2,)), ("drop", 0))],
                         [[], [0, 1, 2]])
        self.assertEqual(openers(web, ((), (0, 2)), ("build", 1)), [0, 1, 2])

    def test_none_opens(self):
        self.assertEqual(openers(LINE, ((0, 1), ()), ("drop", 2)), [])
        self.assertEqual(openers(ROUGH, ((1,), ()), ("drop", 0)), [])
        self.assertEqual(openers(TWIN, ((0,), ()), ("build", 1)), [])

    def test_clashes_against_all_lengths(self):
        seen = set()
        for web in TRIED:
            for plan in held_plans(web):
                pairs = itertools.combinations(open_steps(web, plan), 2)
                right = [(one, other) for one, other in pairs
                         if one[1] != other[1] and not holds(web, with_step(with_step(plan, one), other))]
                self.assertEqual(clashes(web, plan), right, (web, plan))
                seen |= {(one[0], other[0]) for one, other in right}
        # What may be built and what may be dropped never clash: to drop a road spoils no side.
        self.assertEqual(seen, {("build", "build"), ("drop", "drop")})

    def test_no_road_clashes_with_itself(self):
        for web in [TWIN, (2, ((0, 1, 1, 1),) * 4), LARGE[2]]:
            self.assertTrue(all(one[1] != other[1] and one < other for one, other in clashes(web, NOTHING)))
        self.assertIn(("build", 0), options(TWIN, NOTHING))
        self.assertIn(("drop", 0), options(TWIN, NOTHING))
        many = [(word, road) for word in ("build", "drop") for road in range(3)]
        self.assertEqual(options((2, ((0, 1, 1, 1),) * 3), NOTHING), many)
        self.assertEqual(clashes((2, ((0, 1, 1, 1),) * 3), NOTHING),
                         [(("build", 0), ("build", 1)), (("build", 0), ("build", 2)), (("build", 1), ("build", 2))])

    def test_clashes_of_different_kinds(self):
        web = (3, ((0, 1, 1, 1), (0, 1, 1, 1), (1, 2, 0, 0)))
        self.assertEqual(clashes(web, ((), (0,))), [])
        self.assertEqual(clashes(web, ((0,), ())), [])
        self.assertEqual([clashes(ROUGH, NOTHING), clashes(CLEAR, NOTHING), clashes(ALONE, NOTHING)], [[], [], []])

    def test_completed_step_by_step(self):
        for web in TRIED:
            for plan in held_plans(web)[::2]:
                right = plan
                while open_steps(web, right):
                    right = with_step(right, open_steps(web, right)[0])
                self.assertEqual(completed(web, plan), right, (web, plan))

    def test_nothing_left_to_decide(self):
        for web, plan in [(CLEAR, ((0, 1), (2,))), (TWIN, ((1,), (0,))), (ALONE, NOTHING), (LINE, ((0, 1, 2), ()))]:
            self.assertEqual([options(web, plan), clashes(web, plan), completed(web, plan)], [[], [], plan])
        self.assertEqual(completed(LINE, NOTHING), ((0, 1, 2), ()))

    def test_large_webs(self):
        for web in LARGE + [BEYOND]:
            plan = completed(web, NOTHING)
            self.assertEqual(options(web, plan), [])
            for step in all_steps(web, plan):
                lengths = find_against(web, plan, step)
                self.assertFalse(holds(web, with_step(plan, step), (lengths,)))
            for step in all_steps(web, NOTHING)[::4]:
                self.assertEqual(len(openers(web, NOTHING, step)) == len(web[1]), step in options(web, NOTHING))
        web = (6, tuple((a, b, 7, 7) for a, b in itertools.combinations(range(6), 2))[:10])
        self.assertEqual(completed(web, NOTHING), ((0, 1, 2, 3, 4), (5, 6, 7, 8, 9)))
        self.assertEqual(completed(web, NOTHING)[0], all_trees(web)[0])


if __name__ == "__main__":
    unittest.main()
