import functools
import itertools
import unittest

from oracles import all_trees, always_least
from roughroads.forecast import fewest, is_enough, unavoidable
from samples import ALONE, CLEAR, LARGE, LINE, ROUGH, SMALL, TWIN, all_lengths, drawn_webs

# Six houses and ten roads, of which every one has many lengths.
WIDE = [
    (6, ((0, 1, 0, 99), (0, 2, 3, 90), (1, 2, 4, 44), (2, 3, 5, 50), (3, 4, 7, 80),
         (3, 5, 1, 90), (4, 5, 6, 66), (0, 5, 10, 70), (1, 4, 2, 60), (0, 3, 12, 30))),
    (6, tuple((a, b, 0, 99) for a, b in itertools.combinations(range(6), 2))[:10]),
    (6, ((0, 1, 0, 20), (1, 2, 0, 20), (2, 3, 0, 20), (3, 4, 0, 20), (4, 5, 0, 20),
         (0, 5, 10, 99), (0, 2, 15, 99), (2, 4, 18, 99), (1, 5, 19, 99), (0, 3, 20, 99))),
]


def measured(web, lengths, roads):
    rows = [row[:2] + (lengths[road],) * 2 if road in roads else row for road, row in enumerate(web[1])]
    return (web[0], tuple(rows))


@functools.lru_cache(maxsize=None)
def settled(web):
    """Return whether a small web is settled, by trying all lengths."""
    return bool(always_least(web, all_lengths(web)))


@functools.lru_cache(maxsize=None)
def rounds(web):
    """Return for each tree its exchanges; whichever bounds the roads have, they are the same."""
    every = [set(tree) for tree in all_trees(web)]
    return [[(min(tree - other), min(other - tree)) for other in every if len(tree - other) == 1] for tree in every]


def settled_by_exchanges(web, pairs):
    """Return whether a web is settled: whether no exchange makes some tree shorter at any lengths."""
    return any(all(web[1][out][3] <= web[1][other][2] for out, other in tree) for tree in pairs)


def all_choices(web):
    roads = range(len(web[1]))
    return [chosen for many in range(len(web[1]) + 1) for chosen in itertools.combinations(roads, many)]


def shortest(every):
    return [roads for roads in every if len(roads) == min(map(len, every))]


class ForecastTest(unittest.TestCase):
    def test_examples(self):
        self.assertEqual([fewest(ROUGH, (3, 2, 3)), unavoidable(ROUGH, (3, 2, 3)), fewest(ROUGH, (4, 2, 3)),
                          fewest(CLEAR, (1, 1, 5))], [[(0,)], [0], [(0, 2)], [()]])
        self.assertEqual([is_enough(ROUGH, (3, 2, 3), (0,)), is_enough(ROUGH, (3, 2, 3), (1, 2))], [True, False])

    def check(self, web, lengths, right):
        """Check the three functions, where right are all tuples that are enough."""
        for roads in all_choices(web):
            self.assertIs(is_enough(web, lengths, roads), roads in right, (web, lengths, roads))
        self.assertEqual(fewest(web, lengths), shortest(right), (web, lengths))
        everywhere = [road for road in range(len(web[1])) if all(road in roads for roads in right)]
        self.assertEqual(unavoidable(web, lengths), everywhere, (web, lengths))
        return len(fewest(web, lengths)) > 1, len(fewest(web, lengths)[0]), len(everywhere)

    def test_against_all_lengths(self):
        seen = set()
        for web in [web for web in SMALL + drawn_webs(50) if len(all_lengths(web)) <= 60]:
            for lengths in all_lengths(web):
                right = [roads for roads in all_choices(web) if settled(measured(web, lengths, roads))]
                seen.add(self.check(web, lengths, right))
        self.assertTrue({(False, 0, 0), (False, 1, 1), (True, 1, 0), (False, 2, 2), (True, 2, 1)} <= seen, seen)

    def test_settled_already(self):
        for web in [CLEAR, LINE, TWIN, ALONE]:
            lengths = tuple(row[3] for row in web[1])
            self.assertEqual([fewest(web, lengths), unavoidable(web, lengths), is_enough(web, lengths, ())],
                             [[()], [], True])

    def test_lengths_at_both_bounds(self):
        web = (2, ((0, 1, 0, 9), (0, 1, 4, 5)))
        self.assertEqual([fewest(web, (0, 4)), fewest(web, (9, 5)), fewest(web, (4, 5)), fewest(web, (5, 4))],
                         [[(0,)]] * 4)
        web = (2, ((0, 1, 0, 9), (0, 1, 0, 9)))
        self.assertEqual([fewest(web, (0, 9)), fewest(web, (9, 9)), fewest(web, (0, 0)), fewest(web, (1, 8))],
                         [[(0,), (1,)], [(0,), (1,)], [(0,), (1,)], [(0, 1)]])
        self.assertEqual([unavoidable(web, (0, 9)), unavoidable(web, (1, 8))], [[], [0, 1]])

    def test_large_webs_against_exchanges(self):
        for web in LARGE + WIDE:
            pairs = rounds(web)
            lows, highs = tuple(row[2] for row in web[1]), tuple(row[3] for row in web[1])
            between = tuple(row[2] + (row[3] - row[2]) * at // 9 for at, row in enumerate(web[1]))
            for lengths in [lows, highs, between]:
                right = [roads for roads in all_choices(web)
                         if settled_by_exchanges(measured(web, lengths, roads), pairs)]
                self.check(web, lengths, right)

    def test_all_exchanges_tell_what_all_lengths_tell(self):
        for web in [web for web in SMALL + drawn_webs(50) if len(all_lengths(web)) <= 60]:
            self.assertIs(settled_by_exchanges(web, rounds(web)), settled(web))


if __name__ == "__main__":
    unittest.main()
