import itertools
import unittest

from oracles import all_choices, first_for_all, free_pairs, grounds, least, only_first, tree_pairs
from roughroads.firsttrees import find_fixed
from roughroads.fixing import compulsory, fixes, unsure_pairs
from samples import ALONE, BEYOND, CLEAR, LARGE, LINE, MANY, ROUGH, SMALL, TIED, TWIN, WIDE
from samples import all_lengths, drawn_lengths, drawn_webs, exact, is_one_of

TRIED = SMALL + [TIED, WIDE] + drawn_webs(60)


def fixed_by(web, lengths, roads):
    """Return whether some roads fix the tree of a small web, by trying all lengths that are left."""
    return only_first(web, [(lengths[at],) * 2 if at in roads else row[2:] for at, row in enumerate(web[1])])


class FixingTest(unittest.TestCase):
    def check(self, web, lengths, roads, right):
        """Check what fixes the tree, where right tells it of tuples of roads, and all that goes with it."""
        known, pairs = compulsory(web, lengths), unsure_pairs(web, lengths)
        self.check_grounds(web, lengths, known)
        self.assertEqual(exact(pairs), exact(free_pairs(web, lengths)), (web, lengths))
        for chosen in roads:
            found = set(known) <= set(chosen) and all(set(pair) & set(chosen) for pair in pairs)
            self.assertIs(fixes(web, lengths, chosen), right(chosen), (web, lengths, chosen))
            self.assertIs(found, right(chosen), (web, lengths, chosen))
        return bool(known), bool(pairs)

    def check_grounds(self, web, lengths, known):
        """Check that the compulsory roads are there, each with one of its grounds."""
        every = grounds(web, lengths)
        self.assertIs(type(known), dict)
        self.assertEqual(sorted(known), sorted(every), (web, lengths))
        for road, ground in known.items():
            self.assertEqual([type(road), type(ground)], [int, int])
            self.assertIn(ground, every[road], (web, lengths, road))

    def test_examples(self):
        self.assertEqual([fixes(ROUGH, (3, 2, 3), (0,)), fixes(ROUGH, (3, 2, 3), (1, 2)),
                          compulsory(ROUGH, (3, 2, 3)), unsure_pairs(ROUGH, (3, 2, 3))], [True, False, {0: 2}, []])
        self.assertEqual([compulsory(ROUGH, (2, 2, 5)), unsure_pairs(ROUGH, (2, 2, 5))], [{}, [(0, 2)]])

    def test_all_lengths(self):
        seen = set()
        for web in TRIED:
            every = all_lengths(web)
            for lengths in every[::len(every) // 201 + 1]:
                seen.add(self.check(web, lengths, all_choices(web), lambda roads: fixed_by(web, lengths, roads)))
        self.assertEqual(len(seen), 4)

    def test_many_pairs(self):
        for web in MANY + LARGE:
            for lengths in drawn_lengths(web, 12):
                choices = all_choices(web)
                known = set(grounds(web, lengths))
                pairs = [set(pair) for pair in free_pairs(web, lengths)]
                right = {roads for roads in choices if known <= set(roads) and all(pair & set(roads) for pair in pairs)}
                self.check(web, lengths, choices[::5] + sorted(right)[::7], lambda roads: roads in right)

    def test_more_roads_fix_it_too(self):
        for web in TRIED[:30] + MANY:
            for lengths in drawn_lengths(web, 3):
                fixing = [roads for roads in all_choices(web)[::3] if fixes(web, lengths, roads)]
                self.assertIs(fixes(web, lengths, tuple(range(len(web[1])))), True)
                for roads in fixing[:20]:
                    for road in range(len(web[1])):
                        self.assertIs(fixes(web, lengths, tuple(sorted({*roads, road}))), True)

    def test_none_has_to_be_measured_exactly_if_the_web_is_fixed(self):
        for web in TRIED:
            for lengths in drawn_lengths(web, 2):
                self.assertIs(fixes(web, lengths, ()), find_fixed(web) is not None)
                self.assertIs(not compulsory(web, lengths) and not unsure_pairs(web, lengths),
                              find_fixed(web) is not None)

    def test_equal_lengths(self):
        # hi(e) and the length of f, the length of e and lo(f), hi(e) and lo(f), each equal, in both orders.
        seen = set()
        bounds = [(3, 3), (3, 5), (2, 5), (3, 4), (4, 5), (5, 5), (2, 3)]
        for one, other in itertools.product(bounds, repeat=2):
            web = (2, ((0, 1, *one), (0, 1, *other)))
            for lengths in all_lengths(web):
                self.check(web, lengths, all_choices(web), lambda roads: fixed_by(web, lengths, roads))
                seen.add((tuple(sorted(compulsory(web, lengths))), tuple(unsure_pairs(web, lengths))))
        self.assertEqual(seen, {((), ()), ((0,), ()), ((1,), ()), ((0, 1), ()), ((), ((0, 1),)), ((), ((1, 0),))})
        self.assertEqual([compulsory((2, ((0, 1, 3, 5), (0, 1, 5, 6))), (3, 5)),
                          unsure_pairs((2, ((0, 1, 3, 5), (0, 1, 5, 6))), (3, 5))], [{}, []])
        self.assertEqual(compulsory((2, ((0, 1, 3, 6), (0, 1, 5, 6))), (3, 5)), {0: 1})
        self.assertEqual(compulsory((2, ((0, 1, 3, 6), (0, 1, 5, 7))), (6, 6)), {1: 0})
        self.assertEqual(compulsory((2, ((0, 1, 3, 7), (0, 1, 5, 7))), (6, 6)), {0: 1, 1: 0})
        self.assertEqual(unsure_pairs((2, ((0, 1, 3, 6), (0, 1, 5, 6))), (5, 6)), [(0, 1)])
        self.assertEqual(compulsory((2, ((0, 1, 3, 6), (0, 1, 3, 6))), (4, 4)), {0: 1, 1: 0})

    def test_roads_of_one_length(self):
        for web in [TIED, (2, ((0, 1, 4, 4), (0, 1, 3, 5))), (2, ((0, 1, 3, 5), (0, 1, 4, 4))), SMALL[10], SMALL[13],
                    (3, ((0, 1, 2, 2), (1, 2, 1, 5), (0, 2, 3, 3), (0, 2, 2, 4)))]:
            for lengths in all_lengths(web):
                self.check(web, lengths, all_choices(web), lambda roads: fixed_by(web, lengths, roads))
                single = [road for road, row in enumerate(web[1]) if row[2] == row[3]]
                self.assertFalse(set(single) & set(compulsory(web, lengths)))
        # Such a road may be of an unsure pair only with one that is compulsory.
        self.assertEqual([compulsory(TIED, (5, 4)), compulsory(TIED, (5, 5))], [{1: 0}, {1: 0}])

    def test_both_roads_of_a_pair_are_compulsory(self):
        web = (2, ((0, 1, 2, 6), (0, 1, 3, 5)))
        self.assertEqual([compulsory(web, (4, 4)), unsure_pairs(web, (4, 4))], [{0: 1, 1: 0}, []])
        self.assertEqual([fixes(web, (4, 4), roads) for roads in all_choices(web)], [False, False, False, True])
        # Road 0 is compulsory as a road of the tree, or as one that is not in it.
        self.assertEqual([compulsory(web, (2, 4)), compulsory(web, (5, 3))], [{0: 1}, {0: 1, 1: 0}])
        # Two grounds for one road.
        web = (2, ((0, 1, 2, 6), (0, 1, 3, 3), (0, 1, 4, 4)))
        self.assertIn(compulsory(web, (2, 3, 4)), [{0: 1}, {0: 2}])
        self.assertEqual([fixes(web, (2, 3, 4), (0,)), fixes(web, (2, 3, 4), (1, 2))], [True, False])

    def test_pairs_are_of_the_detour_alone(self):
        web = (4, ((0, 1, 0, 9), (1, 2, 0, 9), (2, 3, 0, 9), (0, 2, 5, 20)))
        lengths = (1, 2, 3, 18)
        self.assertEqual(sorted(tree_pairs(web, lengths)), [(0, 3), (1, 3)])
        self.assertEqual([compulsory(web, lengths), unsure_pairs(web, lengths)], [{}, [(0, 3), (1, 3)]])
        self.assertEqual([fixes(web, lengths, roads) for roads in [(3,), (0, 1), (0, 2), (2,)]],
                         [True, True, False, False])
        web = (4, ((0, 2, 5, 20), (2, 3, 0, 9), (1, 2, 0, 9), (0, 1, 0, 9)))
        self.assertEqual([compulsory(web, (18, 3, 2, 1)), unsure_pairs(web, (18, 3, 2, 1))], [{}, [(2, 0), (3, 0)]])

    def test_tree_is_that_for_the_lengths(self):
        web = (2, ((0, 1, 0, 9), (0, 1, 0, 10)))
        for lengths, known, pairs in [((0, 10), [], [(0, 1)]), ((0, 9), [], [(0, 1)]), ((0, 8), [0], []),
                                      ((8, 0), [0, 1], []), ((8, 8), [0, 1], [])]:
            self.assertEqual([sorted(compulsory(web, lengths)), unsure_pairs(web, lengths)], [known, pairs])
            self.assertEqual(least(web, lengths)[0], first_for_all(web)[lengths])
        web = (2, ((0, 1, 1, 10), (0, 1, 0, 9)))
        for lengths, known, pairs in [((10, 0), [], [(1, 0)]), ((9, 0), [1], []), ((10, 1), [0], []),
                                      ((1, 1), [0, 1], []), ((1, 9), [0, 1], [])]:
            self.assertEqual([sorted(compulsory(web, lengths)), unsure_pairs(web, lengths)], [known, pairs])

    def test_webs_of_which_all_roads_are_in_the_tree(self):
        for web in (ALONE, LINE, (2, ((0, 1, 0, 99),))):
            for lengths in drawn_lengths(web, 2):
                self.assertEqual(exact([compulsory(web, lengths), unsure_pairs(web, lengths)]), exact([{}, []]))
                self.assertIs(fixes(web, lengths, ()), True)
        self.assertEqual([fixes(TWIN, (5, 5), ()), fixes(CLEAR, (2, 2, 5), ())], [True, True])

    def test_beyond(self):
        for lengths in drawn_lengths(BEYOND, 3):
            self.check(BEYOND, lengths, [(), tuple(range(11))], lambda roads: bool(roads))

    def test_results_are_new(self):
        for result in (compulsory(ROUGH, (3, 2, 3)), unsure_pairs(ROUGH, (2, 2, 5))):
            result.clear()
        self.assertEqual([compulsory(ROUGH, (3, 2, 3)), unsure_pairs(ROUGH, (2, 2, 5))], [{0: 2}, [(0, 2)]])
        self.assertTrue(all(is_one_of(pair, [(0, 2)]) for pair in unsure_pairs(ROUGH, (2, 2, 5))))


if __name__ == "__main__":
    unittest.main()
