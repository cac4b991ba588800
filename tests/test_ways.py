import itertools
import unittest

from oracles import all_crossing, all_detours, all_sides
from roughroads.ways import crossing, detours, sides
from samples import ALONE, BEYOND, LARGE, LINE, ROUGH, SMALL, TWIN, drawn_webs


class WaysTest(unittest.TestCase):
    def test_examples(self):
        self.assertEqual([detours(ROUGH, 2), detours(ROUGH, 0), sides(ROUGH, 1), crossing(ROUGH, (0, 1))],
                         [[(0, 1)], [(2, 1)], [(0, 1), (1,)], [1, 2]])

    def test_detours_against_all_orders(self):
        for web in SMALL + drawn_webs(30) + [BEYOND[:1] + (BEYOND[1][:7],)]:
            for road in range(len(web[1])):
                self.assertEqual(detours(web, road), all_detours(web, road), (web, road))

    def test_detours_of_large_webs(self):
        for web in LARGE:
            for road in range(0, len(web[1]), 3):
                self.assertEqual(detours(web, road), all_detours(web, road), (web, road))

    def test_several_roads_between_two_houses(self):
        self.assertEqual([detours(TWIN, 0), detours(TWIN, 1)], [[(1,)], [(0,)]])
        web = (3, ((0, 1, 1, 1), (0, 1, 1, 1), (1, 2, 1, 1), (1, 2, 1, 1), (0, 2, 1, 1)))
        self.assertEqual(detours(web, 4), [(0, 2), (0, 3), (1, 2), (1, 3)])
        self.assertEqual(detours(web, 0), [(1,), (4, 2), (4, 3)])
        self.assertEqual(detours(web, 3), [(0, 4), (1, 4), (2,)])

    def test_no_detours(self):
        for road in range(3):
            self.assertEqual(detours(LINE, road), [])
        self.assertEqual(detours((2, ((0, 1, 1, 4),)), 0), [])

    def test_order_is_that_of_the_walk(self):
        web = (4, ((0, 3, 1, 1), (2, 3, 1, 1), (1, 2, 1, 1), (0, 1, 1, 1)))
        self.assertEqual(detours(web, 0), [(3, 2, 1)])
        self.assertEqual(detours(web, 3), [(0, 1, 2)])

    def test_no_house_twice(self):
        # A triangle hangs at house 0, another one at house 1 and one on the way; none may be walked round.
        web = (6, ((0, 1, 1, 1), (0, 2, 1, 1), (2, 3, 1, 1), (0, 3, 1, 1), (0, 4, 1, 1), (1, 4, 1, 1),
                   (1, 5, 1, 1), (4, 5, 1, 1)))
        self.assertEqual(detours(web, 0), [(4, 5), (4, 7, 6)])

    def test_beyond_the_limits(self):
        self.assertEqual(detours(BEYOND, 10), all_detours(BEYOND[:1] + (BEYOND[1],), 10))
        self.assertEqual(len(sides(BEYOND, 0)), 2 ** 5)
        self.assertEqual(crossing(BEYOND, (0, 6)), [0, 5, 9, 10])

    def test_sides_against_all_houses(self):
        for web in SMALL + LARGE + drawn_webs(20) + [BEYOND]:
            for road in range(len(web[1])):
                self.assertEqual(sides(web, road), all_sides(web, road), (web, road))

    def test_sides_need_not_hang_together(self):
        self.assertEqual(sides(LINE, 0), [(0,), (0, 2), (0, 2, 3), (0, 3)])
        self.assertEqual(sides(LINE, 2), [(0, 1, 2), (0, 2), (1, 2), (2,)])
        self.assertEqual(sides(TWIN, 1), [(0,)])

    def test_crossing_of_every_side(self):
        for web in SMALL + LARGE + drawn_webs(20):
            for road in range(len(web[1])):
                for side in sides(web, road):
                    self.assertEqual(crossing(web, side), all_crossing(web, side), (web, side))
                    self.assertIn(road, crossing(web, side))

    def test_crossing_of_any_houses(self):
        for many in range(4):
            for houses in itertools.combinations(range(3), many):
                self.assertEqual(crossing(ROUGH, houses), all_crossing(ROUGH, houses))
        self.assertEqual(crossing(TWIN, (0,)), [0, 1])
        self.assertEqual(crossing(ALONE, (0,)), [])


if __name__ == "__main__":
    unittest.main()
