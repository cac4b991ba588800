import random
import unittest

from oracles import least_sum
from roughroads.comparing import difference_range, find_longer
from samples import ALONE, CLEAR, LARGE, LINE, ROUGH, SMALL, TWIN, all_lengths, drawn_webs, is_one_of

ROUGH_AGAIN = (3, ((0, 2, 1, 4), (0, 1, 2, 3), (1, 2, 3, 6)))
ROUGH_PAIR = (2, ((0, 1, 1, 4), (0, 1, 2, 3), (0, 1, 3, 6)))
ROUGH_STAR = (4, ((0, 1, 1, 4), (0, 2, 2, 3), (0, 3, 3, 6)))


def other_houses(web, draw):
    """Return a web with the same bounds and, where there are roads enough, with other houses."""
    many = len(web[1])
    size = draw.randint(min(2, many + 1), min(6, many + 1))
    pairs = [(draw.randrange(house), house) for house in range(1, size)]
    pairs += [tuple(sorted(draw.sample(range(size), 2))) for _ in range(many - len(pairs))]
    draw.shuffle(pairs)
    return (size, tuple(pair + row[2:] for pair, row in zip(pairs, web[1])))


class ComparingTest(unittest.TestCase):
    def check(self, web, other):
        by_lengths = {lengths: least_sum(web, lengths) - least_sum(other, lengths) for lengths in all_lengths(web)}
        low, high = min(by_lengths.values()), max(by_lengths.values())
        self.assertEqual(difference_range(web, other), (low, high), (web, other))
        longer = [lengths for lengths in by_lengths if by_lengths[lengths] > 0]
        found = find_longer(web, other)
        self.assertTrue(is_one_of(found, longer) if longer else found is None, (web, other, found))
        self.assertEqual(found is None, high <= 0)
        return (low > 0) - (low < 0), (high > 0) - (high < 0)

    def test_examples(self):
        self.assertEqual([difference_range(LINE, ROUGH), find_longer(ROUGH, LINE)], [(3, 6), None])

    def test_webs_with_the_bounds_of_rough(self):
        every = [ROUGH, LINE, ROUGH_AGAIN, ROUGH_PAIR, ROUGH_STAR]
        for web in every:
            for other in every:
                self.check(web, other)
        self.assertEqual(difference_range(ROUGH, ROUGH_AGAIN), (0, 0))
        self.assertEqual(difference_range(LINE, ROUGH_STAR), (0, 0))
        self.assertEqual([difference_range(ROUGH, LINE), difference_range(ROUGH_PAIR, LINE)], [(-6, -3), (-10, -5)])

    def test_against_all_lengths(self):
        draw = random.Random(5)
        seen = set()
        for web in SMALL + drawn_webs(120):
            other = other_houses(web, draw)
            seen.add(self.check(web, other))
            self.check(other, web)
        self.assertEqual(seen, {(one, two) for one in (-1, 0, 1) for two in (-1, 0, 1) if one <= two})

    def test_other_order_of_the_same_houses(self):
        # Only the order of the pairs of houses differs, so that both webs are as large.
        draw = random.Random(6)
        for web in drawn_webs(80):
            pairs = [row[:2] for row in web[1]]
            draw.shuffle(pairs)
            other = (web[0], tuple(pair + row[2:] for pair, row in zip(pairs, web[1])))
            self.check(web, other)
            self.check(other, web)

    def test_the_same_web_twice(self):
        for web in SMALL + LARGE + [CLEAR, TWIN, ALONE]:
            self.assertEqual([difference_range(web, web), find_longer(web, web)], [(0, 0), None])

    def test_lengths_that_are_neither_lows_nor_highs_of_all(self):
        # Each web is longer for some lengths, but not while all roads have their lows, or all their highs.
        web = (3, ((0, 1, 0, 9), (0, 1, 0, 9), (1, 2, 0, 9)))
        other = (3, ((0, 1, 0, 9), (1, 2, 0, 9), (0, 1, 0, 9)))
        self.assertEqual([difference_range(web, other), difference_range(other, web)], [(-9, 9), (-9, 9)])
        for one, two in [(web, other), (other, web)]:
            lengths = find_longer(one, two)
            self.assertGreater(least_sum(one, lengths), least_sum(two, lengths))

    def test_large_webs(self):
        draw = random.Random(8)
        for web in LARGE:
            other = other_houses(web, draw)
            low, high = difference_range(web, other)
            self.assertEqual(difference_range(other, web), (-high, -low))
            found = find_longer(web, other)
            self.assertEqual(found is None, high <= 0)
            for _ in range(60):
                lengths = tuple(draw.randint(row[2], row[3]) for row in web[1])
                self.assertTrue(low <= least_sum(web, lengths) - least_sum(other, lengths) <= high)


if __name__ == "__main__":
    unittest.main()
