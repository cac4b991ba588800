import unittest

from oracles import all_trees, in_all, in_some, least, sums
from roughroads.trees import is_tree, least_trees, needed, total, trees, used
from samples import ALONE, BEYOND, LARGE, LINE, ROUGH, SMALL, TWIN
from samples import all_lengths, drawn_webs, is_one_of, near, odd_values


class TreesTest(unittest.TestCase):
    def test_examples(self):
        self.assertEqual([trees(ROUGH), least_trees(ROUGH, (2, 2, 3)), least_trees(ROUGH, (3, 3, 3))],
                         [[(0, 1), (0, 2), (1, 2)], [(0, 1)], [(0, 1), (0, 2), (1, 2)]])
        self.assertEqual([used(ROUGH, (3, 2, 3)), needed(ROUGH, (3, 2, 3)), total((3, 2, 3), (0, 1))],
                         [[0, 1, 2], [1], 5])

    def test_trees_against_all_tuples(self):
        for web in SMALL + LARGE + drawn_webs(30) + [BEYOND]:
            self.assertEqual(trees(web), all_trees(web), web)

    def test_trees_of_certain_webs(self):
        self.assertEqual(trees(ALONE), [()])
        self.assertEqual(trees(TWIN), [(0,), (1,)])
        self.assertEqual(trees(LINE), [(0, 1, 2)])
        self.assertEqual(trees((3, ((0, 1, 1, 1), (0, 1, 1, 1), (1, 2, 1, 1)))), [(0, 2), (1, 2)])
        # Four houses and a road between each two of them: sixteen trees (Cayley).
        self.assertEqual(len(trees(SMALL[-1])), 16)

    def test_total(self):
        for roads in [(), (0,), (2,), (0, 0), (1, 1, 1), (2, 0), (0, 1, 2), (2, 2, 0, 1, 1)]:
            self.assertEqual(total((7, 20, 300), roads), sums((7, 20, 300), roads), roads)
        self.assertEqual([total((4, 5), ()), total((4, 5), (1, 1)), total((), ()), total((0, 0), (0, 1))],
                         [0, 10, 0, 0])

    def test_least_trees_used_and_needed(self):
        for web in SMALL + drawn_webs(15):
            for lengths in all_lengths(web):
                best = least(web, lengths)
                self.assertEqual(least_trees(web, lengths), best, (web, lengths))
                self.assertEqual(used(web, lengths), in_some(web, best), (web, lengths))
                self.assertEqual(needed(web, lengths), in_all(web, best), (web, lengths))

    def test_large_webs(self):
        for web in LARGE + [BEYOND]:
            for at in (2, 3):
                lengths = tuple(row[at] for row in web[1])
                best = least(web, lengths)
                self.assertEqual(least_trees(web, lengths), best)
                self.assertEqual([used(web, lengths), needed(web, lengths)], [in_some(web, best), in_all(web, best)])

    def test_equal_lengths(self):
        self.assertEqual(least_trees(TWIN, (5, 5)), [(0,), (1,)])
        self.assertEqual([used(TWIN, (5, 5)), needed(TWIN, (5, 5))], [[0, 1], []])
        web = SMALL[-1]
        self.assertEqual(least_trees(web, (3,) * 6), trees(web))
        self.assertEqual([used(web, (3,) * 6), needed(web, (3,) * 6)], [[0, 1, 2, 3, 4, 5], []])

    def test_one_house(self):
        self.assertEqual([least_trees(ALONE, ()), used(ALONE, ()), needed(ALONE, ())], [[()], [], []])


class IsTreeTest(unittest.TestCase):
    def test_trees_and_what_is_near(self):
        for web in SMALL + drawn_webs(10):
            right = all_trees(web)
            for tree in right[:8]:
                self.assertIs(is_tree(web, tree), True, (web, tree))
                for value in near(tree, len(web[1])):
                    self.assertIs(is_tree(web, value), is_one_of(value, right), (web, value))

    def test_certain_values(self):
        for value in [(1, 0), (0, 0), (1, 1), (0,), (), (0, 1, 2), (0, 0, 1), (0, 3), (-1, 0), (-3, 1), (-2, -1),
                      (0, True), (False, 1), (True, 2), [0, 1], ((0, 1),), (0, None), {0: 1}, "01"]:
            self.assertIs(is_tree(ROUGH, value), False, value)
        for value in [(0, 1), (0, 2), (1, 2)]:
            self.assertIs(is_tree(ROUGH, value), True, value)
        self.assertIs(is_tree((2, ((0, 1, 1, 1),)), (False,)), False)

    def test_roads_in_a_round(self):
        web = (4, ((0, 1, 1, 1), (1, 2, 1, 1), (0, 2, 1, 1), (2, 3, 1, 1), (2, 3, 1, 1)))
        for value in [(0, 1, 2), (0, 3, 4), (2, 3, 4)]:
            self.assertIs(is_tree(web, value), False, value)
        self.assertIs(is_tree(web, (0, 2, 4)), True)

    def test_one_house(self):
        self.assertIs(is_tree(ALONE, ()), True)
        for value in [(0,), [], None, ((),), (None,)]:
            self.assertIs(is_tree(ALONE, value), False, value)

    def test_any_value(self):
        for value in odd_values():
            for web in [ROUGH, TWIN, LINE, ALONE]:
                self.assertIs(is_tree(web, value), False)
                self.assertIs(is_tree(web, (value,)), web == TWIN and type(value) is int and value in (0, 1))


if __name__ == "__main__":
    unittest.main()
