import itertools
import unittest

from oracles import all_choices, all_crossing, all_detours, all_sides, all_witnesses, first_for_all, hi, is_fixed, lo
from oracles import lower_others, only_first, tight_ok, witness_ok
from roughroads.firsttrees import find_fixed, first_tree
from roughroads.measuring import with_length
from roughroads.witnesses import find_must, find_witness, find_without, is_tight, is_witness, unlike_lengths
from samples import ALONE, BEYOND, CLEAR, LARGE, LINE, PAIR, ROUGH, SMALL, TIED, TWIN, WIDE
from samples import all_lengths, changed, drawn_webs, exact, odd_values

TRIED = SMALL + [TIED, WIDE] + drawn_webs(150)
# A ring, which has witnesses that are not tight.
RING = (4, ((0, 1, 0, 9), (1, 2, 0, 9), (2, 3, 0, 9), (0, 3, 1, 10)))
CROSSED = (4, ((0, 1, 0, 5), (1, 2, 0, 6), (2, 3, 0, 7), (0, 3, 3, 8), (0, 2, 1, 4), (1, 3, 2, 7)))


def all_tuples(web):
    """Return all tuples of a road, a detour and a side of it, and any others."""
    return [value for road in range(len(web[1]))
            for value in itertools.product([road], all_detours(web, road), all_sides(web, road), all_choices(web))]


def mixed_tuples(web):
    """Return some tuples of a road, detours and sides of other roads, and others in any order."""
    roads = range(len(web[1]))
    ways = sorted({way for road in roads for way in all_detours(web, road)})
    sides = sorted({side for road in roads for side in all_sides(web, road)})
    others = [chosen for many in range(3) for chosen in itertools.permutations(roads, many)]
    every = list(itertools.product(roads, ways, sides, others))
    return every[::len(every) // 1000 + 1]


class FindWitnessTest(unittest.TestCase):
    def check(self, web, right):
        found = find_witness(web)
        if right:
            self.assertIsNone(found, web)
        else:
            self.assertTrue(tight_ok(web, found), (web, found))
            self.assertEqual([is_witness(web, found), is_tight(web, found)], [True, True])

    def test_examples(self):
        self.assertEqual(exact([find_witness(ROUGH), unlike_lengths(ROUGH, PAIR), is_tight(ROUGH, PAIR),
                                find_witness(CLEAR)]), exact([PAIR, ((1, 2, 6), (4, 2, 3)), True, None]))
        self.assertEqual(exact([find_must(WIDE, 0), find_without(WIDE, 0), find_must(ROUGH, 0),
                                is_witness(ROUGH, (2, (0, 1), (0,), ()))]),
                         exact([(0, (1,), (0,), ()), None, None, False]))

    def test_none_exactly_if_the_web_is_fixed(self):
        seen = set()
        for web in TRIED + [RING, CROSSED]:
            bounds = [sorted({row[2:], row[2:3] * 2, row[3:] * 2}) for row in web[1]]
            for chosen in list(itertools.product(*bounds))[:400]:
                other = (web[0], tuple(row[:2] + pair for row, pair in zip(web[1], chosen)))
                right = find_fixed(other) is not None
                if web not in (RING, CROSSED):
                    self.assertIs(only_first(web, chosen), right)
                self.check(other, right)
                seen.add(right or len(find_witness(other)[3]))
        self.assertEqual(seen, {True, 0, 1})

    def test_roads_of_it_are_in_the_first_tree_for_some_lengths_and_not_for_others(self):
        for web in TRIED:
            if not is_fixed(web):
                road, _, _, others = find_witness(web)
                trees = set(first_for_all(web).values())
                for one in (road, *others):
                    self.assertEqual({one in tree for tree in trees}, {True, False}, (web, one))

    def test_measured_one_after_the_other(self):
        # Whoever measures the roads of one witness after the other knows the tree at last.
        for web in LARGE + [RING, CROSSED]:
            for at in (2, 3):
                other = web
                while find_witness(other) is not None:
                    self.check(other, False)
                    road, _, _, others = find_witness(other)
                    for one in (road, *others):
                        self.assertLess(other[1][one][2], other[1][one][3])
                        other = with_length(other, one, other[1][one][at])
                self.assertIsNotNone(find_fixed(other))

    def test_beyond(self):
        self.check(BEYOND, False)
        self.check((BEYOND[0], tuple(row[:2] + row[3:] * 2 for row in BEYOND[1])), True)

    def test_equal_bounds(self):
        for one, other in itertools.product([(5, 5), (4, 5), (5, 6), (4, 6), (5, 9), (0, 99)], repeat=2):
            web = (2, ((0, 1, *one), (0, 1, *other)))
            self.check(web, (one[1], 0) < (other[0], 1) or (other[1], 1) < (one[0], 0))


class IsWitnessTest(unittest.TestCase):
    def check(self, web, value):
        right, tight = witness_ok(web, value), tight_ok(web, value)
        self.assertIs(is_witness(web, value), right, (web, value))
        self.assertIs(is_tight(web, value), tight, (web, value))
        return right, tight

    def test_all_tuples(self):
        seen = set()
        for web in [ROUGH, CLEAR, LINE, TWIN, TIED, WIDE] + SMALL[6:13] + drawn_webs(12):
            for value in all_tuples(web) + mixed_tuples(web):
                seen.add(self.check(web, value))
        self.assertEqual(len(seen), 3, seen)

    def test_all_witnesses(self):
        seen = set()
        for web in TRIED + [RING, CROSSED]:
            for witness in all_witnesses(web):
                seen.add((self.check(web, witness), len(witness[3])))
        self.assertTrue({((True, False), 1), ((True, False), 2), ((True, True), 0), ((True, True), 1)} <= seen, seen)

    def test_changed(self):
        seen = set()
        for web in [ROUGH, WIDE, RING, CROSSED] + drawn_webs(60):
            every = all_witnesses(web)
            for witness in every[:2] + every[-1:]:
                for value in changed(witness):
                    seen.add(self.check(web, value))
        self.assertEqual(len(seen), 3, seen)

    def test_witness_that_is_not_tight(self):
        # Two others, both in the detour; the lows are all the same, and so road 0 is no other one of road 1.
        web = (4, ((0, 1, 0, 9), (1, 2, 0, 8), (2, 3, 0, 7), (0, 3, 0, 10), (0, 2, 0, 9)))
        self.assertEqual([is_witness(web, (4, (0, 1), (0,), (0, 3))), is_witness(web, (4, (0, 1), (0, 3), (0, 2)))],
                         [True, True])
        self.assertEqual([is_tight(web, (4, (0, 1), (0,), (0, 3))), is_tight(web, (4, (0, 1), (0, 3), (0, 2)))],
                         [False, False])
        # One other road, which is not in the detour, or is in it with a road that is always behind it.
        web = (3, ((0, 1, 2, 3), (1, 2, 0, 4), (0, 2, 3, 5), (0, 2, 1, 4)))
        for value in all_tuples(web):
            self.check(web, value)
        web = (3, ((0, 1, 0, 4), (1, 2, 4, 6), (0, 2, 3, 9)))
        self.assertEqual([is_witness(web, (2, (0, 1), (0,), (0,))), is_tight(web, (2, (0, 1), (0,), (0,)))],
                         [True, False])
        web = (3, ((0, 1, 0, 5), (1, 2, 4, 6), (0, 2, 3, 9)))
        self.assertEqual([is_witness(web, (2, (0, 1), (0,), (0,))), is_tight(web, (2, (0, 1), (0,), (0,)))],
                         [True, True])
        # Equal lengths are compared by the numbers.
        web = (3, ((1, 2, 4, 6), (0, 1, 0, 4), (0, 2, 3, 9)))
        self.assertEqual([is_witness(web, (2, (1, 0), (0,), (1,))), is_tight(web, (2, (1, 0), (0,), (1,)))],
                         [True, True])

    def test_equal_lengths(self):
        # hi(e) < hi(road), lo(h) < lo(road) and lo(road) < hi(h), each with equal lengths and other numbers.
        for rows, right in [(((0, 1, 2, 5), (0, 1, 3, 5)), [(1, (0,), (0,), (0,))]),
                            (((0, 1, 3, 5), (0, 1, 2, 5)), [(1, (0,), (0,), ())]),
                            (((0, 1, 3, 5), (0, 1, 3, 5)), [(1, (0,), (0,), (0,))]),
                            (((0, 1, 3, 5), (0, 1, 3, 4)), [(0, (1,), (0,), ())]),
                            (((0, 1, 3, 4), (0, 1, 4, 5)), []), (((0, 1, 4, 5), (0, 1, 3, 4)), [(0, (1,), (0,), (1,))]),
                            (((0, 1, 3, 4), (0, 1, 4, 4)), []), (((0, 1, 4, 4), (0, 1, 3, 4)), [(1, (0,), (0,), ())])]:
            web = (2, rows)
            self.assertEqual(all_witnesses(web), right)
            for value in all_tuples(web):
                self.assertIs(is_witness(web, value), value in right, (web, value))

    def test_bools_and_lists(self):
        web = (2, ((0, 1, 2, 5), (0, 1, 3, 6)))
        good = (1, (0,), (0,), (0,))
        self.assertEqual([is_witness(web, good), is_tight(web, good)], [True, True])
        for value in [(True, (0,), (0,), (0,)), (1, (False,), (0,), (0,)), (1, (0,), (False,), (0,)),
                      (1, (0,), (0,), (False,)), [1, (0,), (0,), (0,)], (1, [0], (0,), (0,)), (1, (0,), [0], (0,)),
                      (1, (0,), (0,), [0]), (1, 0, 0, 0), (1, (0,), (0,)), (1, (0,), (0,), (0,), ()), (1,), (),
                      (1, (0,), (0,), (0, 0)), (1, (0,), (0,), (0, 1)), (1, (0,), (0,), (1,)), (1, (0,), (0,), ()),
                      (1, (0,), (1,), (0,)), (1, (1,), (0,), (0,)), (0, (1,), (0,), ()), (0, (0,), (0,), (1,)),
                      (-1, (0,), (0,), (0,)), (2, (0,), (0,), (0,)), ("1", (0,), (0,), (0,)), (None, (0,), (0,), (0,)),
                      (1, (0,), (0,), {0: 0}), (1, (0,), (0,), "0"), (1, (0,), (0,), None), {0: good}, (good,)]:
            self.assertEqual([is_witness(web, value), is_tight(web, value)], [False, False], value)
        web = (2, ((0, 1, 0, 9), (0, 1, 2, 5)))
        self.assertIs(is_tight(web, (0, (1,), (0,), ())), True)
        for value in [(False, (1,), (0,), ()), (0, (True,), (0,), ()), (0, (1,), (0,), []), (0, (1,), (0,), None)]:
            self.assertEqual([is_witness(web, value), is_tight(web, value)], [False, False], value)

    def test_any_value(self):
        for web, good in [(ROUGH, PAIR), (WIDE, (0, (1,), (0,), ())), (ALONE, None)]:
            for value in odd_values() + [web]:
                self.assertEqual([is_witness(web, value), is_tight(web, value)], [False, False], value)
                for at in range(4 if good else 0):
                    other = good[:at] + (value,) + good[at + 1:]
                    right = exact(other) == exact(good)
                    self.assertEqual([is_witness(web, other), is_tight(web, other)], [right, right], other)

    def test_beyond(self):
        witness = find_witness(BEYOND)
        self.assertIs(is_tight(BEYOND, witness), True)
        self.assertIs(is_tight(BEYOND, (11,) + witness[1:]), False)


class MeaningTest(unittest.TestCase):
    """What the remarks in point [20] say of witnesses, over all lengths of small webs."""

    def test_unlike_lengths(self):
        for web in TRIED:
            for witness in all_witnesses(web):
                road, _, _, others = witness
                one, other = unlike_lengths(web, witness)
                lows = [row[2] for row in web[1]]
                self.assertEqual(exact(one), exact(tuple(row[3] if at == road else lows[at]
                                                         for at, row in enumerate(web[1]))))
                self.assertEqual(exact(other), exact(tuple(row[3] if at in others else lows[at]
                                                           for at, row in enumerate(web[1]))))
                self.assertNotIn(road, first_for_all(web)[one])
                self.assertIn(road, first_for_all(web)[other])

    def test_unlike_lengths_of_large_webs(self):
        for web in LARGE + [RING, CROSSED, BEYOND]:
            witness = find_witness(web)
            self.assertEqual([witness[0] in first_tree(web, lengths) for lengths in unlike_lengths(web, witness)],
                             [False, True])
        web = (4, ((0, 1, 0, 9), (1, 2, 0, 8), (2, 3, 0, 7), (0, 3, 0, 10), (0, 2, 0, 9)))
        self.assertEqual(unlike_lengths(web, (4, (0, 1), (0,), (0, 3))), ((0, 0, 0, 0, 9), (9, 0, 0, 10, 0)))

    def test_whoever_fixes_the_tree_measures_one_of_them(self):
        for web in drawn_webs(60):
            every = all_witnesses(web)
            for lengths in all_lengths(web)[::7] if every else []:
                for witness in every:
                    rest = [row[2:] if at in (witness[0], *witness[3]) else (lengths[at],) * 2
                            for at, row in enumerate(web[1])]
                    self.assertFalse(only_first(web, rest), (web, lengths, witness))

    def test_roads_of_witnesses_have_two_lengths_at_least(self):
        for web in TRIED:
            for witness in all_witnesses(web):
                self.assertTrue(all(web[1][road][2] < web[1][road][3] for road in (witness[0], *witness[3])))


class MustTest(unittest.TestCase):
    def check(self, web):
        found = []
        for road, row in enumerate(web[1]):
            right = [(road, way, side, ()) for way in all_detours(web, road) for side in all_sides(web, road)
                     if all(hi(web, one) < hi(web, road) for one in way) and not lower_others(web, road, side)]
            must, lengths = find_must(web, road), find_without(web, road)
            found.append(bool(right))
            if right:
                self.assertIn(exact(must), map(exact, right), (web, road))
                self.assertTrue(tight_ok(web, must))
                self.assertIsNone(lengths, (web, road))
            else:
                self.assertIsNone(must, (web, road))
                self.assertTrue(type(lengths) is tuple and all(type(length) is int for length in lengths))
                self.assertEqual([low <= length <= high for length, (_, _, low, high) in zip(lengths, web[1],
                                                                                           strict=True)],
                                 [True] * len(web[1]))
                rest = (web[0], tuple(part if at == road else part[:2] + lengths[at:at + 1] * 2
                                      for at, part in enumerate(web[1])))
                trees = {first_tree(rest, lengths[:road] + (length,) + lengths[road + 1:])
                         for length in range(row[2], row[3] + 1)}
                self.assertEqual(len(trees), 1, (web, road, lengths))
        return found

    def test_small_webs(self):
        seen = set()
        for web in TRIED:
            seen |= set(self.check(web))
        self.assertEqual(seen, {True, False})

    def test_lengths_are_there_exactly_if_there_is_no_must(self):
        for web in drawn_webs(60):
            for road in range(len(web[1])):
                right = any(only_first(web, [row[2:] if at == road else (lengths[at],) * 2
                                             for at, row in enumerate(web[1])]) for lengths in all_lengths(web))
                self.assertEqual([find_must(web, road) is None, find_without(web, road) is not None], [right, right])

    def test_large_webs(self):
        for web in LARGE + [RING, CROSSED, BEYOND]:
            self.check(web)

    def test_equal_bounds(self):
        for one, other in itertools.product([(5, 5), (4, 5), (5, 6), (4, 6), (5, 9), (0, 99)], repeat=2):
            self.check((2, ((0, 1, *one), (0, 1, *other))))
        self.assertEqual([find_must((2, ((0, 1, 3, 5), (0, 1, 3, 5))), road) for road in (0, 1)], [None, None])
        self.assertEqual([find_must((2, ((0, 1, 3, 5), (0, 1, 2, 5))), road) for road in (0, 1)],
                         [None, (1, (0,), (0,), ())])
        self.assertEqual([find_must((2, ((0, 1, 3, 5), (0, 1, 3, 4))), road) for road in (0, 1)],
                         [(0, (1,), (0,), ()), None])

    def test_roads_without_a_detour(self):
        for road in range(3):
            self.assertIsNone(find_must(LINE, road))
            self.assertIsNotNone(find_without(LINE, road))
        self.assertEqual(all_crossing(LINE, (0,)), [0])
        self.assertEqual([find_must(TWIN, 0), find_without(TWIN, 0)], [None, (5, 5)])
        self.assertEqual(lo(TWIN, 1), (5, 1))


if __name__ == "__main__":
    unittest.main()
