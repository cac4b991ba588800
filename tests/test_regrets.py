import unittest

from oracles import all_trees, least_sum, sums
from roughroads.regrets import find_regret, least_regret, regret_range
from samples import ALONE, BEYOND, CLEAR, LARGE, LINE, ROUGH, SMALL, TWIN, all_lengths, drawn_webs, is_one_of


class RegretsTest(unittest.TestCase):
    def test_examples(self):
        self.assertEqual([regret_range(ROUGH, (0, 1)), regret_range(ROUGH, (0, 2)), regret_range(ROUGH, (1, 2))],
                         [(0, 1), (0, 4), (0, 5)])
        self.assertEqual([least_regret(ROUGH), least_regret(CLEAR), find_regret(ROUGH, (0, 1), 2)],
                         [([(0, 1)], 1), ([(0, 1)], 0), None])

    def test_against_all_lengths(self):
        shared = []
        for web in SMALL + drawn_webs(50):
            best = {lengths: least_sum(web, lengths) for lengths in all_lengths(web)}
            greatest = {}
            for tree in all_trees(web):
                by_regret = {}
                for lengths in best:
                    by_regret.setdefault(sums(lengths, tree) - best[lengths], []).append(lengths)
                greatest[tree] = max(by_regret)
                self.check_tree(web, tree, by_regret)
            number = min(greatest.values())
            right = [tree for tree in all_trees(web) if greatest[tree] == number]
            self.assertEqual(least_regret(web), (right, number), web)
            shared.append((len(right) > 1, number > 0))
        self.assertEqual(set(shared), {(True, True), (True, False), (False, True), (False, False)})

    def check_tree(self, web, tree, by_regret):
        low, high = min(by_regret), max(by_regret)
        self.assertEqual(regret_range(web, tree), (low, high), (web, tree))
        for number in range(low, high + 1):
            self.assertTrue(is_one_of(find_regret(web, tree, number), by_regret[number]), (web, tree, number))
        for number in [low - 1, high + 1, -1, -2, 1000, 10 ** 59, -(10 ** 59)]:
            self.assertIsNone(find_regret(web, tree, number), (web, tree, number))

    def test_trees_that_are_never_least(self):
        self.assertEqual([regret_range(CLEAR, (0, 2)), find_regret(CLEAR, (0, 2), 2)], [(3, 5), None])
        found = find_regret(CLEAR, (0, 2), 4)
        self.assertEqual(sums(found, (0, 2)) - least_sum(CLEAR, found), 4)

    def test_several_trees_with_the_least_regret(self):
        self.assertEqual(least_regret(TWIN), ([(0,), (1,)], 0))
        self.assertEqual(least_regret((2, ((0, 1, 0, 9), (0, 1, 3, 12), (0, 1, 2, 11)))), ([(0,)], 7))
        self.assertEqual(least_regret((2, ((0, 1, 2, 9), (0, 1, 0, 7), (0, 1, 2, 9)))), ([(1,)], 5))
        self.assertEqual(least_regret((2, ((0, 1, 2, 9), (0, 1, 3, 9), (0, 1, 2, 9)))), ([(0,), (1,), (2,)], 7))

    def test_rows_of_houses(self):
        self.assertEqual([least_regret(LINE), least_regret(ALONE)], [([(0, 1, 2)], 0), ([()], 0)])
        self.assertEqual([find_regret(ALONE, (), 0), find_regret(ALONE, (), 1)], [(), None])

    def test_large_webs(self):
        for web in LARGE + [BEYOND]:
            every = all_trees(web)
            for tree in every[::25]:
                low, high = regret_range(web, tree)
                for number in {low, (low + high) // 2, high}:
                    lengths = find_regret(web, tree, number)
                    self.assertEqual(sums(lengths, tree) - least_sum(web, lengths), number)
                self.assertIsNone(find_regret(web, tree, low - 1))
                self.assertIsNone(find_regret(web, tree, high + 1))
            greatest = [regret_range(web, tree)[1] for tree in every]
            right = [tree for tree, number in zip(every, greatest) if number == min(greatest)]
            self.assertEqual(least_regret(web), (right, min(greatest)))


if __name__ == "__main__":
    unittest.main()
