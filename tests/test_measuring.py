import random
import unittest

from oracles import always_least
from roughroads.measuring import settled_tree, settling, with_length
from samples import ALONE, BEYOND, CLEAR, LARGE, LINE, ROUGH, SMALL, TWIN, all_lengths, drawn_webs, is_one_of


def tied_webs(many):
    """Return webs of which most roads have one of few lengths, so that often several trees are always least."""
    draw = random.Random(9)
    found = []
    for _ in range(many):
        size = draw.randint(2, 5)
        pairs = [(draw.randrange(house), house) for house in range(1, size)]
        pairs += [tuple(sorted(draw.sample(range(size), 2))) for _ in range(draw.randint(1, 4))]
        draw.shuffle(pairs)
        found.append((size, tuple(pair + draw.choice([(1, 1), (2, 2), (2, 2), (1, 2), (2, 3), (0, 1)])
                                  for pair in pairs)))
    return found


def settled(web):
    """Return the first tree that is least for all lengths, or None, by trying all lengths."""
    right = always_least(web, all_lengths(web))
    return right[0] if right else None


def changed(web, road, length):
    rows = [row[:2] + (length, length) if at == road else row for at, row in enumerate(web[1])]
    return (web[0], tuple(rows))


class MeasuringTest(unittest.TestCase):
    def test_examples(self):
        self.assertEqual([with_length(ROUGH, 0, 3), settled_tree(ROUGH), settled_tree(with_length(ROUGH, 0, 3))],
                         [(3, ((0, 1, 3, 3), (1, 2, 2, 3), (0, 2, 3, 6))), None, (0, 1)])
        self.assertEqual([settling(ROUGH, 0), settling(ROUGH, 2)], [[1, 2, 3], [4, 5, 6]])

    def test_with_length_leaves_all_else(self):
        for web in SMALL + LARGE + [BEYOND]:
            for road, row in enumerate(web[1]):
                for length in {row[2], row[3], (row[2] + row[3]) // 2}:
                    self.assertEqual(with_length(web, road, length), changed(web, road, length))
                    self.assertIs(type(with_length(web, road, length)[1][road]), tuple)

    def test_settled_tree_against_all_lengths(self):
        seen = set()
        for web in SMALL + drawn_webs(60) + tied_webs(120):
            right = settled(web)
            found = settled_tree(web)
            self.assertTrue(found is None if right is None else is_one_of(found, [right]), (web, found, right))
            seen.add((right is None, len(always_least(web, all_lengths(web))) > 1))
        self.assertEqual(seen, {(True, False), (False, True), (False, False)})

    def test_first_of_several_trees(self):
        self.assertEqual([settled_tree(TWIN), settled_tree(LINE), settled_tree(CLEAR), settled_tree(ALONE)],
                         [(0,), (0, 1, 2), (0, 1), ()])
        # Roads of one length tie with each other, but not with a road that may be longer or shorter.
        self.assertEqual(settled_tree((2, ((0, 1, 3, 4), (0, 1, 3, 3), (0, 1, 3, 3)))), (1,))
        self.assertEqual(settled_tree((2, ((0, 1, 3, 3), (0, 1, 2, 3), (0, 1, 3, 3)))), (1,))
        self.assertEqual(settled_tree((2, ((0, 1, 3, 4), (0, 1, 2, 3), (0, 1, 3, 3)))), (1,))
        self.assertIsNone(settled_tree((2, ((0, 1, 2, 3), (0, 1, 2, 3)))))
        self.assertEqual(settled_tree((3, ((0, 2, 5, 5), (0, 1, 5, 5), (1, 2, 5, 5), (1, 2, 1, 5)))), (0, 3))

    def test_settling_against_all_lengths(self):
        for web in SMALL[:5] + SMALL[6:] + drawn_webs(40) + tied_webs(40):
            for road, row in enumerate(web[1]):
                right = [length for length in range(row[2], row[3] + 1)
                         if settled(changed(web, road, length)) is not None]
                self.assertEqual(settling(web, road), right, (web, road))

    def test_road_of_a_hundred_lengths(self):
        self.assertEqual(settling((2, ((0, 1, 0, 99), (0, 1, 40, 60))), 0), [*range(41), *range(60, 100)])
        self.assertEqual(settling((2, ((0, 1, 0, 99), (0, 1, 40, 60))), 1), [])
        self.assertEqual(settling((2, ((0, 1, 0, 99),)), 0), list(range(100)))
        self.assertEqual(settling((2, ((0, 1, 0, 0), (0, 1, 0, 99))), 1), list(range(100)))

    def test_no_settling_length(self):
        self.assertEqual(settling(ROUGH, 1), [])
        self.assertEqual(settling((3, ((0, 1, 0, 2), (0, 1, 1, 3), (1, 2, 0, 5))), 2), [])
        self.assertEqual(settling((2, ((0, 1, 3, 5), (0, 1, 4, 6), (0, 1, 4, 6))), 0), [3, 4])

    def test_road_of_one_length(self):
        self.assertEqual([settling(TWIN, 0), settling((2, ((0, 1, 5, 5), (0, 1, 4, 6))), 0)], [[5], []])

    def test_large_webs(self):
        for web in LARGE:
            lows = tuple(row[2] for row in web[1])
            for at, row in enumerate(web[1]):
                measured = web
                for road in range(len(web[1])):
                    if road != at:
                        measured = with_length(measured, road, lows[road])
                lengths = [lows[:at] + (length,) + lows[at + 1:] for length in range(row[2], row[3] + 1)]
                right = always_least(web, lengths)
                self.assertEqual(settled_tree(measured), right[0] if right else None)


if __name__ == "__main__":
    unittest.main()
