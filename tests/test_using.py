import unittest

from checks import check_beyond, check_found, check_odd, check_values, check_walks, right_detours, right_sides
from oracles import all_detours, all_sides
from roughroads.using import find_bar, find_hold, find_unused, find_used, is_bar, is_hold
from samples import BEYOND, CLEAR, LARGE, LINE, ROUGH, SMALL, TWIN, drawn_webs


class FindTest(unittest.TestCase):
    def test_examples(self):
        self.assertEqual([find_bar(CLEAR, 2), find_used(CLEAR, 2), find_hold(ROUGH, 1), find_unused(ROUGH, 1)],
                         [(0, 1), None, (0, 1), None])

    def test_against_all_lengths(self):
        for web in SMALL + drawn_webs(60):
            check_found(self, web, "used", find_used, find_unused, find_bar, find_hold, is_bar, is_hold)

    def test_equal_bounds(self):
        for road in range(2):
            self.assertEqual([find_used(TWIN, road), find_unused(TWIN, road)], [(5, 5), None])
            self.assertEqual([find_bar(TWIN, road), find_hold(TWIN, road)], [None, (0,)])

    def test_touching_bounds(self):
        # The high of one road is the low of the other one, and then one less.
        web = (2, ((0, 1, 0, 49), (0, 1, 49, 99)))
        self.assertEqual([find_bar(web, 1), find_used(web, 1), find_hold(web, 0)], [None, (49, 49), (0,)])
        web = (2, ((0, 1, 0, 48), (0, 1, 49, 99)))
        self.assertEqual([find_bar(web, 1), find_used(web, 1), find_hold(web, 0)], [(0,), None, (0,)])
        web = (2, ((0, 1, 0, 50), (0, 1, 49, 99)))
        self.assertEqual([find_bar(web, 1), find_hold(web, 0), find_unused(web, 0)], [None, None, (50, 49)])

    def test_no_detours(self):
        for road in range(3):
            self.assertEqual([find_bar(LINE, road), find_unused(LINE, road)], [None, None])
            self.assertIs(is_hold(LINE, road, find_hold(LINE, road)), True)
        self.assertEqual(find_hold((2, ((0, 1, 0, 99),)), 0), (0,))

    def test_large_webs(self):
        check_beyond(self, LARGE + [BEYOND], (find_bar, find_used), right_detours, True)
        check_beyond(self, LARGE + [BEYOND], (find_hold, find_unused), right_sides, False)


class IsTest(unittest.TestCase):
    def test_examples(self):
        self.assertEqual([is_bar(CLEAR, 2, (0, 1)), is_bar(CLEAR, 2, (1, 0)), is_hold(ROUGH, 1, (1,))],
                         [True, False, False])

    def test_bars(self):
        check_values(self, SMALL + drawn_webs(12), is_bar, right_detours, all_detours, True)

    def test_holds(self):
        check_values(self, SMALL + drawn_webs(12), is_hold, right_sides, all_sides, False)

    def test_walks(self):
        check_walks(self, is_bar, 3)

    def test_other_values(self):
        check_odd(self, CLEAR, 2, is_bar, (0, 1))
        check_odd(self, CLEAR, 0, is_hold, (0,))
        check_odd(self, CLEAR, 1, is_hold, (0, 1))

    def test_bools(self):
        for value in [(False, 1), (0, True), (False, True)]:
            self.assertIs(is_bar(CLEAR, 2, value), False, value)
            self.assertIs(is_hold(ROUGH, 1, value), False, value)

    def test_beyond(self):
        self.assertIs(is_bar(BEYOND, 8, (2, 3)), True)
        self.assertIs(is_hold(BEYOND, 5, (0, 1, 2, 3, 4, 5)), True)

    def test_of_another_road(self):
        self.assertIs(is_bar(CLEAR, 0, (0, 1)), False)
        self.assertIs(is_hold(CLEAR, 0, (1,)), False)
        self.assertIs(is_hold(CLEAR, 1, (0,)), False)


if __name__ == "__main__":
    unittest.main()
