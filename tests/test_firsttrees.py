import copy
import itertools
import unittest

from oracles import all_trees, first_for_all, fixed_paper_ok, hi, is_fixed, least, lo, only_first
from roughroads.firsttrees import find_fixed, first_tree, is_fixed_paper
from roughroads.measuring import settled_tree, with_length
from samples import ALONE, BEYOND, CLEAR, LARGE, LINE, ROUGH, SMALL, TIED, TWIN, WIDE
from samples import all_lengths, changed, drawn_webs, exact, odd_values

TRIED = SMALL + [TIED, WIDE] + drawn_webs(150)
SURE = (5, ((0, 1, 1, 2), (1, 2, 0, 1), (2, 3, 1, 3), (3, 4, 2, 2), (0, 4, 4, 5), (1, 4, 5, 5), (0, 2, 1, 9)))


def measured(web):
    """Return webs in which some of the roads have their lows or their highs."""
    bounds = [sorted({row[2:], row[2:3] * 2, row[3:] * 2} if at < 5 else {row[2:]}) for at, row in enumerate(web[1])]
    return [(web[0], tuple(row[:2] + pair for row, pair in zip(web[1], chosen)))
            for chosen in itertools.product(*bounds)]


class FirstTreeTest(unittest.TestCase):
    def test_examples(self):
        self.assertEqual([first_tree(ROUGH, (3, 3, 3)), first_tree(ROUGH, (4, 2, 3))], [(0, 1), (1, 2)])

    def test_all_lengths(self):
        for web in TRIED:
            for lengths, tree in first_for_all(web).items():
                self.assertEqual(exact(first_tree(web, lengths)), exact(tree), (web, lengths))

    def test_ties(self):
        web = (4, ((2, 3, 1, 5), (0, 1, 1, 5), (1, 2, 1, 5), (0, 3, 1, 5), (0, 2, 1, 5), (1, 3, 1, 5)))
        for lengths in itertools.product((1, 2), repeat=6):
            self.assertEqual(first_tree(web, lengths), least(web, lengths)[0])
        self.assertEqual([first_tree(web, (5,) * 6), first_tree(TWIN, (5, 5)), first_tree(ALONE, ())],
                         [(0, 1, 2), (0,), ()])

    def test_large_webs(self):
        for web in LARGE + [BEYOND]:
            for lengths in [tuple(row[2] for row in web[1]), tuple(row[3] for row in web[1])]:
                self.assertEqual(first_tree(web, lengths), least(web, lengths)[0])


class FindFixedTest(unittest.TestCase):
    def check(self, web, right):
        found = find_fixed(web)
        if right:
            self.assertTrue(fixed_paper_ok(web, found), (web, found))
            self.assertIs(is_fixed_paper(web, found), True, (web, found))
        else:
            self.assertIsNone(found, web)

    def test_examples(self):
        self.assertEqual(exact([find_fixed(ROUGH), find_fixed(CLEAR), find_fixed(TIED)]),
                         exact([None, ((0, 1), {2: (0, 1)}), None]))

    def test_all_lengths(self):
        seen = set()
        for web in TRIED:
            for other in measured(web):
                right = only_first(web, [row[2:] for row in other[1]])
                self.check(other, right)
                seen.add((right, settled_tree(other) is not None))
        # A fixed web is settled, but not each settled web is fixed.
        self.assertEqual(seen, {(True, True), (False, True), (False, False)})

    def test_equal_lengths(self):
        # At one length the road with the lesser number comes before, for all lengths.
        for one, other, right in [((1, 5), (5, 9), True), ((5, 9), (1, 5), False), ((5, 5), (5, 5), True),
                                  ((1, 5), (4, 9), False), ((6, 9), (1, 5), True), ((6, 6), (6, 6), True),
                                  ((5, 6), (5, 5), False), ((4, 5), (5, 5), True), ((5, 5), (4, 5), False),
                                  ((5, 5), (4, 4), True), ((0, 99), (99, 99), True), ((99, 99), (0, 99), False)]:
            web = (2, ((0, 1, *one), (0, 1, *other)))
            self.check(web, right)
            self.assertIs(is_fixed(web), right)

    def test_detours_in_the_order_of_the_way(self):
        self.assertEqual(find_fixed(SURE), None)
        web = with_length(with_length(SURE, 6, 4), 4, 4)
        self.assertEqual(find_fixed(web), ((0, 1, 2, 3), {4: (0, 1, 2, 3), 5: (1, 2, 3), 6: (0, 1)}))
        web = (4, ((2, 3, 0, 1), (0, 2, 1, 1), (1, 3, 0, 3), (0, 1, 3, 9), (0, 3, 4, 4), (1, 2, 2, 2)))
        self.assertEqual(find_fixed(web), None)
        self.assertEqual(find_fixed(with_length(web, 2, 1)), ((0, 1, 2), {3: (1, 0, 2), 4: (1, 0), 5: (2, 0)}))

    def test_webs_of_which_all_roads_are_in_the_tree(self):
        for web in [ALONE, LINE, (2, ((0, 1, 0, 99),))]:
            self.assertEqual(find_fixed(web), (tuple(range(web[0] - 1)), {}))

    def test_large_webs(self):
        for web in LARGE + [BEYOND]:
            rows = tuple(row[:2] + row[2:3] * 2 for row in web[1])
            self.check((web[0], rows), True)
            self.check(web, False)
            for at, row in enumerate(web[1]):
                other = (web[0], rows[:at] + (row,) + rows[at + 1:])
                ends = [least(other, tuple(part[k] for part in other[1]))[0] for k in (2, 3)]
                self.check(other, ends[0] == ends[1])


class IsFixedPaperTest(unittest.TestCase):
    def test_all_small_ones(self):
        for web in [ROUGH, CLEAR, TWIN, TIED, SMALL[6], SMALL[12]]:
            ways = [way for many in range(4) for way in itertools.permutations(range(len(web[1])), many)]
            for tree in all_trees(web):
                others = [road for road in range(len(web[1])) if road not in tree]
                for chosen in itertools.product(ways, repeat=len(others)):
                    value = (tree, dict(zip(others, chosen)))
                    self.assertIs(is_fixed_paper(web, value), fixed_paper_ok(web, value), (web, value))

    def test_changed(self):
        seen = set()
        for web in TRIED + [with_length(with_length(SURE, 6, 4), 4, 4)]:
            paper = find_fixed(web)
            if paper is not None:
                for value in changed(paper):
                    right = fixed_paper_ok(web, value)
                    self.assertIs(is_fixed_paper(web, value), right, (web, value))
                    seen.add(right)
        self.assertEqual(seen, {True, False})

    def test_other_webs(self):
        papers = [find_fixed(web) for web in TRIED if find_fixed(web) is not None]
        for web in TRIED:
            for paper in papers[::3]:
                self.assertIs(is_fixed_paper(web, paper), fixed_paper_ok(web, paper), (web, paper))

    def test_papers_of_webs_that_are_not_fixed(self):
        for web, paper in [(ROUGH, ((0, 1), {2: (0, 1)})), (TIED, ((0,), {1: (0,)})), (TIED, ((1,), {0: (1,)})),
                           (WIDE, ((0,), {1: (0,)})), (WIDE, ((1,), {0: (1,)}))]:
            self.assertIs(is_fixed_paper(web, paper), False)
        self.assertIs(is_fixed_paper(TWIN, ((0,), {1: (0,)})), True)
        self.assertIs(is_fixed_paper(TWIN, ((1,), {0: (1,)})), False)

    def test_parts(self):
        web = with_length(with_length(SURE, 6, 4), 4, 4)
        tree, ways = find_fixed(web)
        rest = {5: (1, 2, 3), 6: (0, 1)}
        self.assertIs(is_fixed_paper(web, (tree, dict(list(ways.items())[::-1]))), True)
        for value in [(tree, rest), (tree, {}), (tree, {**ways, 0: (1,)}), (tree, {**ways, 7: (0,)}),
                      (tree, {**ways, 4: (3, 2, 1, 0)}), (tree, {**ways, 4: (0, 5)}), (tree, {**ways, 4: (6, 2, 3)}),
                      (tree, {**ways, 4: (0, 1, 2)}), (tree, {**ways, 4: ()}), (tree, {**ways, 4: (1, 0, 2, 3)}),
                      (tree, {**ways, 4: [0, 1, 2, 3]}), (tree, {**ways, 4: (False, 1, 2, 3)}),
                      (tree, {**ways, 4: (0, True, 2, 3)}), (tree, {**rest, "4": (0, 1, 2, 3)}),
                      (tree, {**ways, 4: (0, 1, 2, 3, 3)}), (tree, {**ways, 4: (0, 0, 0, 1, 2, 3)}),
                      (tree, {**ways, 4: (4,)}), (list(tree), ways), ((3, 2, 1, 0), ways), ((0, 1, 2, 4), ways),
                      ((False, 1, 2, 3), ways), (tree[:3], ways), (tree + (4,), ways), [tree, ways], (tree, ways, {}),
                      (tree,), (ways, tree), tree, ways, (tree, list(ways.items())), (tree, tuple(ways.items())),
                      ((0, 1, 2, 3, 3), ways), (tree, {**ways, -1: (0,)}), (tree, {**ways, None: (0,)})]:
            self.assertIs(is_fixed_paper(web, value), False, value)

    def test_bools_as_keys(self):
        web = (2, ((0, 1, 3, 4), (0, 1, 1, 2), (0, 1, 9, 9)))
        self.assertIs(is_fixed_paper(web, ((1,), {0: (1,), 2: (1,)})), True)
        self.assertIs(is_fixed_paper(web, ((1,), {False: (1,), 2: (1,)})), False)
        self.assertIs(is_fixed_paper(web, ((True,), {0: (1,), 2: (1,)})), False)
        self.assertIs(is_fixed_paper(web, ((1,), {0: (True,), 2: (1,)})), False)
        web = (2, ((0, 1, 1, 2), (0, 1, 3, 4)))
        self.assertIs(is_fixed_paper(web, ((0,), {1: (0,)})), True)
        for value in [((0,), {True: (0,)}), ((0,), {1: (False,)}), ((False,), {1: (0,)})]:
            self.assertIs(is_fixed_paper(web, value), False, value)

    def test_detours_that_are_not_surely_before(self):
        # By a detour with one road that is as long as the other at last, with a greater number or a lesser one.
        for rows, right in [(((0, 1, 1, 5), (1, 2, 1, 1), (0, 2, 5, 9)), True),
                            (((0, 1, 1, 6), (1, 2, 1, 1), (0, 2, 5, 9)), False),
                            (((0, 1, 1, 1), (1, 2, 1, 6), (0, 2, 5, 9)), False)]:
            self.assertIs(is_fixed_paper((3, rows), ((0, 1), {2: (0, 1)})), right)
            self.assertIs(is_fixed_paper((3, ((0, 2, 5, 9),) + rows[:2]), ((1, 2), {0: (1, 2)})), False)
        web = (3, ((0, 2, 6, 9), (0, 1, 1, 5), (1, 2, 1, 1)))
        self.assertIs(is_fixed_paper(web, ((1, 2), {0: (1, 2)})), True)
        self.assertEqual([lo(web, 0), hi(web, 1)], [(6, 0), (5, 1)])

    def test_any_value(self):
        for web in [CLEAR, ALONE, TWIN, LINE]:
            tree, ways = find_fixed(web)
            self.assertIs(is_fixed_paper(web, (tree, ways)), True)
            for value in odd_values() + [web, tree, ways]:
                self.assertIs(is_fixed_paper(web, value), False, value)
                self.assertIs(is_fixed_paper(web, (value, ways)), exact(value) == exact(tree), value)
                self.assertIs(is_fixed_paper(web, (tree, value)), exact(value) == exact(ways), value)
                for road in ways:
                    self.assertIs(is_fixed_paper(web, (tree, {**ways, road: value})),
                                  exact(value) == exact(ways[road]), value)

    def test_results_are_new_and_arguments_do_not_change(self):
        paper = find_fixed(CLEAR)
        paper[1].clear()
        self.assertEqual(find_fixed(CLEAR), ((0, 1), {2: (0, 1)}))
        value = ((0, 1), {2: (0, 1)})
        before = copy.deepcopy(value)
        is_fixed_paper(CLEAR, value)
        self.assertEqual(exact(value), exact(before))


if __name__ == "__main__":
    unittest.main()
