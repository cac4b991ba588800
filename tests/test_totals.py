import unittest

from oracles import least_sum
from roughroads.totals import find_total, total_range
from samples import ALONE, BEYOND, CLEAR, LARGE, ROUGH, SMALL, TWIN, all_lengths, drawn_webs, is_one_of

FAR = [-1, -2, 1000, 10 ** 59, -(10 ** 59)]


class TotalsTest(unittest.TestCase):
    def test_examples(self):
        self.assertEqual([total_range(ROUGH), total_range(CLEAR), find_total(ROUGH, 8)], [(3, 7), (2, 4), None])

    def test_against_all_lengths(self):
        for web in SMALL + drawn_webs(60):
            by_total = {}
            for lengths in all_lengths(web):
                by_total.setdefault(least_sum(web, lengths), []).append(lengths)
            low, high = min(by_total), max(by_total)
            self.assertEqual(total_range(web), (low, high), web)
            for number in range(low, high + 1):
                self.assertTrue(is_one_of(find_total(web, number), by_total[number]), (web, number))
            for number in [low - 1, low - 2, high + 1, high + 2] + FAR:
                self.assertIsNone(find_total(web, number), (web, number))

    def test_certain_webs(self):
        self.assertEqual([total_range(ALONE), find_total(ALONE, 0), find_total(ALONE, 1)], [(0, 0), (), None])
        self.assertEqual([total_range(TWIN), find_total(TWIN, 5), find_total(TWIN, 4)], [(5, 5), (5, 5), None])
        web = (2, ((0, 1, 0, 99),))
        self.assertEqual(total_range(web), (0, 99))
        self.assertEqual([find_total(web, number) for number in range(100)], [(number,) for number in range(100)])
        # The long roads never matter, or only one of them up to the low of the other.
        self.assertEqual(total_range((2, ((0, 1, 3, 90), (0, 1, 5, 7), (0, 1, 9, 99)))), (3, 7))

    def test_large_webs(self):
        for web in LARGE + [BEYOND]:
            low, high = total_range(web)
            self.assertEqual(low, least_sum(web, [row[2] for row in web[1]]))
            self.assertEqual(high, least_sum(web, [row[3] for row in web[1]]))
            for number in range(low, high + 1, 7):
                lengths = find_total(web, number)
                self.assertTrue(all(row[2] <= length <= row[3] for length, row in zip(lengths, web[1], strict=True)))
                self.assertEqual(least_sum(web, lengths), number)
            self.assertEqual([find_total(web, low - 1), find_total(web, high + 1)], [None, None])


if __name__ == "__main__":
    unittest.main()
