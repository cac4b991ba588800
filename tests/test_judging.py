import unittest

from oracles import all_trees, least, word
from roughroads.judging import exchanges, find_beaten, find_least, find_sure_exchange, tree_status
from samples import ALONE, BEYOND, CLEAR, LARGE, LINE, ROUGH, SMALL, TWIN, all_lengths, drawn_webs, is_one_of


def all_exchanges(web, tree):
    """Return all exchanges of a tree: one for each other tree that shares all roads but one with it."""
    pairs = [(set(tree) - set(other), set(other) - set(tree)) for other in all_trees(web)]
    return sorted((out.pop(), new.pop()) for out, new in pairs if len(out) == 1)


def sure(web, tree):
    return [(out, new) for out, new in all_exchanges(web, tree) if web[1][new][3] < web[1][out][2]]


class JudgingTest(unittest.TestCase):
    def test_examples(self):
        self.assertEqual([exchanges(ROUGH, (0, 1)), tree_status(ROUGH, (0, 1)), tree_status(CLEAR, (0, 1)),
                          tree_status(CLEAR, (0, 2))], [[(0, 2), (1, 2)], "sometimes", "always", "never"])
        self.assertEqual([find_sure_exchange(CLEAR, (0, 2)), find_least(CLEAR, (0, 2)), find_beaten(CLEAR, (0, 1))],
                         [(2, 1), None, None])

    def test_exchanges_against_trees(self):
        for web in SMALL + LARGE + drawn_webs(40):
            for tree in all_trees(web):
                self.assertEqual(exchanges(web, tree), all_exchanges(web, tree), (web, tree))

    def test_exchanges_of_certain_trees(self):
        self.assertEqual([exchanges(TWIN, (0,)), exchanges(TWIN, (1,))], [[(0, 1)], [(1, 0)]])
        self.assertEqual([exchanges(LINE, (0, 1, 2)), exchanges(ALONE, ())], [[], []])
        web = (4, ((0, 1, 1, 1), (0, 1, 1, 1), (1, 2, 1, 1), (2, 3, 1, 1), (1, 3, 1, 1)))
        self.assertEqual(exchanges(web, (1, 2, 3)), [(1, 0), (2, 4), (3, 4)])

    def test_against_all_lengths(self):
        seen = set()
        for web in SMALL + drawn_webs(60):
            best = {lengths: least(web, lengths) for lengths in all_lengths(web)}
            for tree in all_trees(web):
                flags = [tree in rows for rows in best.values()]
                self.assertEqual(tree_status(web, tree), word(flags), (web, tree))
                seen.add(tree_status(web, tree))
                for found, flag in [(find_least(web, tree), True), (find_beaten(web, tree), False)]:
                    right = [lengths for lengths, rows in best.items() if (tree in rows) == flag]
                    self.assertTrue(is_one_of(found, right) if right else found is None, (web, tree, found))
        self.assertEqual(seen, {"always", "sometimes", "never"})

    def test_sure_exchanges(self):
        for web in SMALL + LARGE + drawn_webs(60):
            for tree in all_trees(web):
                right = sure(web, tree)
                self.assertEqual(find_sure_exchange(web, tree), right[0] if right else None, (web, tree))

    def test_first_of_several_sure_exchanges(self):
        web = (3, ((0, 1, 8, 9), (1, 2, 8, 9), (0, 1, 1, 2), (0, 1, 0, 1), (1, 2, 0, 0)))
        self.assertEqual(find_sure_exchange(web, (0, 1)), (0, 2))
        self.assertEqual(find_sure_exchange(web, (1, 2)), (1, 4))
        self.assertEqual(find_sure_exchange(web, (2, 4)), None)

    def test_touching_bounds(self):
        web = (2, ((0, 1, 5, 9), (0, 1, 0, 5)))
        self.assertEqual([find_sure_exchange(web, (0,)), find_least(web, (0,)), find_beaten(web, (1,))],
                         [None, (5, 5), None])
        web = (2, ((0, 1, 6, 9), (0, 1, 0, 5)))
        self.assertEqual([find_sure_exchange(web, (0,)), find_least(web, (0,))], [(0, 1), None])
        self.assertIn(find_beaten(web, (0,)), all_lengths(web))

    def test_equal_lengths(self):
        for tree in [(0,), (1,)]:
            self.assertEqual([tree_status(TWIN, tree), find_least(TWIN, tree), find_beaten(TWIN, tree)],
                             ["always", (5, 5), None])

    def test_one_house(self):
        self.assertEqual([find_least(ALONE, ()), find_beaten(ALONE, ()), find_sure_exchange(ALONE, ())],
                         [(), None, None])
        self.assertEqual(tree_status(ALONE, ()), "always")

    def test_beyond(self):
        for tree in all_trees(BEYOND)[::20]:
            self.assertEqual(exchanges(BEYOND, tree), all_exchanges(BEYOND, tree))
            self.assertEqual(tree_status(BEYOND, tree) == "never", bool(sure(BEYOND, tree)))


if __name__ == "__main__":
    unittest.main()
