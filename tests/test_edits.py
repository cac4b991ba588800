import random
import unittest

from oracles import all_plans, all_reasons, holds, paper_ok
from roughroads.edits import kept, mended, with_bounds, with_road
from roughroads.plans import find_paper
from samples import ALONE, BEYOND, CLEAR, LARGE, LINE, ROUGH, SMALL, TWIN, all_lengths, drawn_webs, near, odd_values

TRIED = [web for web in SMALL + drawn_webs(40) if len(all_lengths(web)) * 3 ** len(web[1]) <= 3000]


def edited(web, draw):
    """Return the web with other bounds of a road, or with a road more, so that some reasons may be lost."""
    low = draw.randint(0, 5)
    high = low + draw.randint(0, 3)
    if web[1] and draw.random() < 0.6:
        return with_bounds(web, draw.randrange(len(web[1])), low, high)
    return with_road(web, *sorted(draw.sample(range(web[0]), 2)), low, high) if web[0] > 1 else web


def right_kept(web, plan, paper):
    """Return what kept must return, by trying all reasons."""
    roads = sorted(plan[0] + plan[1])
    some = {road: paper[road] for road in roads if road in paper and type(paper[road]) is tuple
            and all(type(part) is int for part in paper[road]) and paper[road] in all_reasons(web, plan, road)}
    return some, [road for road in roads if road not in some]


class WebsTest(unittest.TestCase):
    def test_examples(self):
        self.assertEqual([with_bounds(ROUGH, 0, 1, 3), with_road(LINE, 0, 2, 7, 9)],
                         [(3, ((0, 1, 1, 3), (1, 2, 2, 3), (0, 2, 3, 6))),
                          (4, ((0, 1, 1, 4), (1, 2, 2, 3), (2, 3, 3, 6), (0, 2, 7, 9)))])

    def test_with_bounds_changes_nothing_else(self):
        for web in SMALL + LARGE + [BEYOND]:
            for road in range(len(web[1])):
                for low, high in [(0, 0), (0, 99), (99, 99), (3, 7)]:
                    size, rows = with_bounds(web, road, low, high)
                    self.assertEqual((size, len(rows)), (web[0], len(web[1])))
                    self.assertEqual(rows[road], web[1][road][:2] + (low, high))
                    self.assertEqual(rows[:road] + rows[road + 1:], web[1][:road] + web[1][road + 1:])

    def test_with_road_changes_nothing_else(self):
        for web in SMALL + [BEYOND]:
            for a, b, low, high in [(0, 1, 0, 99), (0, web[0] - 1, 3, 3)]:
                size, rows = with_road(web, a, b, low, high)
                self.assertEqual((size, rows[:-1], rows[-1]), (web[0], web[1], (a, b, low, high)))


class PapersTest(unittest.TestCase):
    def check(self, web, plan, paper):
        some, spoilt = right_kept(web, plan, paper)
        self.assertEqual(kept(web, plan, paper), (some, spoilt), (web, plan, paper))
        found = mended(web, plan, paper)
        if holds(web, plan):
            self.assertTrue(paper_ok(web, plan, found), (web, plan, paper, found))
            self.assertEqual({road: found[road] for road in some}, some)
        else:
            self.assertIsNone(found, (web, plan, paper, found))
        return bool(some), bool(spoilt), found is None

    def test_examples(self):
        web = with_bounds(ROUGH, 2, 2, 6)
        self.assertEqual([kept(web, ((1,), ()), {1: (0, 1)}), mended(web, ((1,), ()), {1: (0, 1)})], [({}, [1]), None])
        web = with_bounds(ROUGH, 2, 4, 6)
        self.assertEqual([kept(web, ((1,), ()), {1: (0, 1)}), mended(web, ((1,), ()), {})],
                         [({1: (0, 1)}, []), {1: (0, 1)}])

    def test_papers_of_webs_before_an_edit(self):
        draw = random.Random(11)
        seen = set()
        for web in TRIED:
            for plan in all_plans(web):
                paper = find_paper(web, plan)
                if paper is not None:
                    other = edited(web, draw)
                    seen.add(self.check(other, plan, paper))
                    seen.add(self.check(web, plan, paper))
                    self.check(other, plan, {road: paper[road] for road in paper if draw.random() < 0.5})
        self.assertEqual(len(seen), 6)

    def test_all_reasons_are_kept(self):
        for web in TRIED[:20]:
            for plan in all_plans(web)[::3]:
                if holds(web, plan):
                    draw = random.Random(12)
                    for _ in range(4):
                        paper = {road: draw.choice(all_reasons(web, plan, road)) for road in plan[0] + plan[1]}
                        self.assertEqual(kept(web, plan, paper), (paper, []))
                        self.assertEqual(mended(web, plan, paper), paper)

    def test_reasons_of_another_kind(self):
        plan = ((0, 1), (2,))
        for paper in [{0: (2, 1), 1: (0, 1), 2: (0, 2)}, {0: (0, 1), 1: (0,), 2: (0,)}, {2: (1, 0)}, {0: (1,)},
                      {0: (0, 2), 1: (1,), 2: (0, 1)}]:
            self.check(CLEAR, plan, paper)
        self.assertEqual(kept(CLEAR, plan, {0: (1, 0), 1: (2, 0), 2: (0, 2)}), ({}, [0, 1, 2]))
        self.assertEqual(kept(CLEAR, plan, {0: (0,), 1: (0,), 2: (0,)}), ({0: (0,)}, [1, 2]))

    def test_empty_paper(self):
        for web in TRIED:
            for plan in all_plans(web)[::2]:
                self.assertEqual(kept(web, plan, {}), ({}, sorted(plan[0] + plan[1])))
                self.check(web, plan, {})
        self.assertEqual([kept(ALONE, ((), ()), {}), mended(ALONE, ((), ()), {})], [({}, []), {}])

    def test_spoilt_road_that_has_another_reason(self):
        # Behind the edit road 3 crosses the side, and all that is left is the other side.
        web = with_road((4, ((0, 1, 2, 3), (1, 2, 1, 1), (2, 3, 1, 1))), 0, 2, 2, 9)
        plan = ((1,), ())
        self.assertEqual(kept(web, plan, {1: (0, 1)}), ({1: (0, 1)}, []))
        web = with_bounds(web, 3, 0, 9)
        self.assertEqual(kept(web, plan, {1: (0, 1)}), ({}, [1]))
        self.assertEqual(mended(web, plan, {1: (0, 1)}), {1: (1,)})

    def test_two_plans_of_the_same_roads(self):
        self.assertEqual(mended(TWIN, ((0,), (1,)), {0: (0,), 1: (1,)}), {0: (0,), 1: (0,)})
        self.assertEqual(mended(TWIN, ((0, 1), ()), {0: (0,), 1: (0,)}), None)
        self.assertEqual(kept(TWIN, ((0, 1), ()), {0: (0,), 1: (0,)}), ({}, [0, 1]))
        self.assertEqual(kept(TWIN, ((), (0, 1)), {0: (1,), 1: (0,)}), ({}, [0, 1]))

    def test_any_value(self):
        plan, right = ((0, 1), (2,)), {0: (0,), 1: (0, 1), 2: (0, 1)}
        for road in right:
            others = [other for other in right if other != road]
            for value in odd_values() + [[*right[road]], {right[road]: 0}, (right[road],), (False, True), (0, True)]:
                paper = {**right, road: value}
                self.assertEqual(kept(CLEAR, plan, paper), ({other: right[other] for other in others}, [road]))
                found = mended(CLEAR, plan, paper)
                self.assertTrue(paper_ok(CLEAR, plan, found))
                self.assertEqual([found[other] for other in others], [right[other] for other in others])
            for value in near(right[road], 3):
                self.check(CLEAR, plan, {**right, road: value})

    def test_paper_is_neither_kept_nor_changed(self):
        paper = {1: (0, 1), 0: [0]}
        some = kept(CLEAR, ((0, 1), ()), paper)[0]
        some[1] = None
        mended(CLEAR, ((0, 1), ()), paper)[1] = None
        self.assertEqual(paper, {1: (0, 1), 0: [0]})


if __name__ == "__main__":
    unittest.main()
