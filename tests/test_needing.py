import unittest

from checks import check_beyond, check_found, check_odd, check_values, check_walks, right_detours, right_sides
from oracles import all_detours, all_sides
from roughroads.needing import find_force, find_needed, find_spare, find_unneeded, is_force, is_spare
from samples import BEYOND, CLEAR, LARGE, LINE, ROUGH, SMALL, TWIN, drawn_webs


class FindTest(unittest.TestCase):
    def test_examples(self):
        self.assertEqual([find_spare(CLEAR, 2), find_force(CLEAR, 0), find_needed(CLEAR, 2), find_unneeded(CLEAR, 0)],
                         [(0, 1), (0,), None, None])

    def test_against_all_lengths(self):
        for web in SMALL + drawn_webs(60):
            check_found(self, web, "needed", find_needed, find_unneeded, find_spare, find_force, is_spare, is_force)

    def test_equal_bounds(self):
        for road in range(2):
            self.assertEqual([find_needed(TWIN, road), find_unneeded(TWIN, road)], [None, (5, 5)])
            self.assertEqual([find_spare(TWIN, road), find_force(TWIN, road)], [(1 - road,), None])

    def test_touching_bounds(self):
        # The high of one road is the low of the other one, and then one less and one more.
        web = (2, ((0, 1, 0, 49), (0, 1, 49, 99)))
        self.assertEqual([find_spare(web, 1), find_needed(web, 1), find_force(web, 0)], [(0,), None, None])
        self.assertEqual(find_unneeded(web, 0), (49, 49))
        web = (2, ((0, 1, 0, 48), (0, 1, 49, 99)))
        self.assertEqual([find_spare(web, 1), find_force(web, 0), find_unneeded(web, 0)], [(0,), (0,), None])
        web = (2, ((0, 1, 0, 50), (0, 1, 49, 99)))
        self.assertEqual([find_spare(web, 1), find_needed(web, 1), find_force(web, 0)], [None, (50, 49), None])

    def test_no_detours(self):
        for road in range(3):
            self.assertEqual([find_spare(LINE, road), find_unneeded(LINE, road)], [None, None])
            self.assertIs(is_force(LINE, road, find_force(LINE, road)), True)
        self.assertEqual(find_force((2, ((0, 1, 0, 99),)), 0), (0,))

    def test_large_webs(self):
        check_beyond(self, LARGE + [BEYOND], (find_spare, find_needed), right_detours, False)
        check_beyond(self, LARGE + [BEYOND], (find_force, find_unneeded), right_sides, True)


class IsTest(unittest.TestCase):
    def test_examples(self):
        self.assertEqual([is_force(ROUGH, 1, (0, 1)), is_spare(CLEAR, 2, (0, 1))], [False, True])

    def test_spares(self):
        check_values(self, SMALL + drawn_webs(12), is_spare, right_detours, all_detours, False)

    def test_forces(self):
        check_values(self, SMALL + drawn_webs(12), is_force, right_sides, all_sides, True)

    def test_walks(self):
        check_walks(self, is_spare, 2)

    def test_other_values(self):
        check_odd(self, CLEAR, 2, is_spare, (0, 1))
        check_odd(self, CLEAR, 0, is_force, (0,))
        check_odd(self, CLEAR, 1, is_force, (0, 1))

    def test_bools(self):
        for value in [(False, 1), (0, True), (False, True)]:
            self.assertIs(is_spare(CLEAR, 2, value), False, value)
            self.assertIs(is_force(CLEAR, 1, value), False, value)
        self.assertIs(is_force(CLEAR, 0, (False,)), False)

    def test_beyond(self):
        self.assertIs(is_spare(BEYOND, 8, (2, 3)), True)
        self.assertIs(is_force(BEYOND, 5, (0, 1, 2, 3, 4, 5)), True)

    def test_of_another_road(self):
        self.assertIs(is_spare(CLEAR, 0, (0, 1)), False)
        self.assertIs(is_force(CLEAR, 0, (1,)), False)
        self.assertIs(is_force(CLEAR, 1, (0,)), False)


if __name__ == "__main__":
    unittest.main()
