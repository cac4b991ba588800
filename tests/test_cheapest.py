import itertools
import random
import unittest

from oracles import all_choices, cheapest_ok, fixing_choices, free_pairs, grounds, sums
from roughroads.cheapest import cheapest, is_cheapest, is_prices
from roughroads.fixing import fixes
from samples import ALONE, BEYOND, CLEAR, LARGE, LINE, MANY, ROUGH, SMALL, TIED, TWIN, WIDE
from samples import all_lengths, changed, drawn_lengths, drawn_webs, exact, misshapen, odd_values

TRIED = SMALL + [TIED, WIDE] + drawn_webs(60)
# Pairs of roads beside each other, each unsure; the second one alone fixes the pair, or the first one alone.
PAIRS = [(many + 1, tuple(row for at in range(many) for row in ((at, at + 1, 0, 2), (at, at + 1, 1, 3))))
         for many in range(1, 6)]
# Five roads in a row and five others, so that up to 25 pairs have roads in common.
ROW = tuple((at, at + 1, at, 50 + at) for at in range(5))
COMMON = [
    (6, ROW + ((0, 5, 40, 99), (0, 4, 41, 99), (1, 5, 42, 99), (1, 4, 43, 99), (2, 5, 44, 99))),
    (6, ROW + ((0, 2, 40, 99), (1, 3, 41, 99), (2, 4, 42, 99), (3, 5, 43, 99), (0, 5, 44, 99))),
    (6, ROW + ((0, 3, 40, 99), (2, 5, 41, 99), (0, 2, 42, 99), (1, 4, 43, 99), (3, 5, 44, 99))),
    (6, ROW[::-1] + ((0, 5, 50, 99), (0, 5, 51, 99), (1, 3, 52, 99), (2, 4, 53, 99), (0, 1, 48, 99))),
]
CLOSE = tuple([3, 4, 5, 6, 7] + [90, 91, 92, 93, 94])


def drawn_prices(web, draw):
    most = draw.choice([1, 2, 3, 9, 99])
    return tuple(draw.randint(1, most) for _ in web[1])


class IsPricesTest(unittest.TestCase):
    def test_bounds(self):
        for price, right in [(1, True), (99, True), (50, True), (0, False), (100, False), (-1, False),
                             (10 ** 59, False), (-(10 ** 59), False)]:
            for at in range(3):
                prices = (7,) * at + (price,) + (8,) * (2 - at)
                self.assertIs(is_prices(ROUGH, prices), right, prices)
            self.assertIs(is_prices((2, ((0, 1, 0, 0),)), (price,)), right)

    def test_number_of_roads(self):
        for web in SMALL + LARGE + [BEYOND]:
            for many in range(14):
                self.assertIs(is_prices(web, (3,) * many), many == len(web[1]), (web, many))
        self.assertIs(is_prices(ALONE, ()), True)

    def test_kinds(self):
        for value in [(True, 1, 1), (1, 1, True), (1, None, 1), ("1", 1, 1), (1, (1,), 1), [1, 1, 1],
                      {0: 1, 1: 1, 2: 1}, "111", 3, None, ((1, 1, 1),), (1, 1, [1]), (False, 1, 1)]:
            self.assertIs(is_prices(ROUGH, value), False, value)
        for value in misshapen((1, 2, 99)):
            self.assertIs(is_prices(ROUGH, value), False, value)
        for value in odd_values():
            self.assertIs(is_prices(ROUGH, value), False, value)
            self.assertIs(is_prices(ALONE, value), False, value)
            self.assertIs(is_prices(ROUGH, (1, value, 1)), type(value) is int and value in (1, 7))


class CheapestTest(unittest.TestCase):
    def check(self, web, lengths, prices):
        found = cheapest(web, lengths, prices)
        self.assertTrue(cheapest_ok(web, lengths, prices, found), (web, lengths, prices, found))
        self.assertIs(is_cheapest(web, lengths, prices, found), True, (web, lengths, prices, found))
        least = min(sums(prices, roads) for roads in fixing_choices(web, lengths))
        self.assertEqual(sums(prices, found[0]), least, (web, lengths, prices, found))
        return found

    def test_examples(self):
        self.assertEqual(exact([cheapest(ROUGH, (3, 2, 3), (1, 1, 1)), cheapest(ROUGH, (2, 2, 5), (5, 1, 2))]),
                         exact([((0,), {}), ((2,), {(0, 2): 2})]))
        self.assertIs(is_cheapest(ROUGH, (2, 2, 5), (5, 1, 2), ((0,), {(0, 2): 2})), False)

    def test_all_lengths(self):
        draw = random.Random(5)
        seen = set()
        for web in TRIED:
            every = all_lengths(web)
            for lengths in every[::len(every) // 40 + 1]:
                for prices in [(1,) * len(web[1]), drawn_prices(web, draw), drawn_prices(web, draw)]:
                    roads, payments = self.check(web, lengths, prices)
                    seen.add((len(roads) > 1, len(payments)))
                    self.assertIs(fixes(web, lengths, roads), True)
        self.assertTrue({(False, 0), (False, 1), (True, 0), (True, 1)} <= seen, seen)

    def test_pairs_that_have_no_road_in_common(self):
        draw = random.Random(6)
        for web in PAIRS:
            many = len(web[1]) // 2
            lengths = (0, 3) * many
            self.assertEqual(free_pairs(web, lengths), [(2 * at, 2 * at + 1) for at in range(many)])
            for prices in [(1,) * 2 * many, (1, 2) * many, (99, 98) * many, (99, 99) * many, (1, 99) * many] + [
                    drawn_prices(web, draw) for _ in range(20)]:
                found = self.check(web, lengths, prices)
                self.assertEqual(sums(prices, found[0]), sum(map(min, prices[0::2], prices[1::2])))
            for lengths in itertools.product([(2, 3), (0, 1), (0, 3), (1, 2)], repeat=many):
                if lengths[1:] == lengths[:-1] or draw.random() < 0.05:
                    self.check(web, sum(lengths, ()), drawn_prices(web, draw))

    def test_pairs_that_have_roads_in_common(self):
        draw = random.Random(7)
        most = 0
        for web in COMMON:
            lengths = CLOSE if web[1][0][2] == 0 else CLOSE[4::-1] + CLOSE[5:]
            most = max(most, len(free_pairs(web, lengths)))
            self.assertFalse(grounds(web, lengths))
            for _ in range(60):
                self.check(web, lengths, drawn_prices(web, draw))
            self.check(web, lengths, (1,) * 10)
            self.check(web, lengths, (99,) * 10)
            self.check(web, lengths, (1,) * 5 + (99,) * 5)
            self.check(web, lengths, (99,) * 5 + (1,) * 5)
        self.assertGreater(most, 15)

    def test_payments_that_are_made_less_again(self):
        # Two pairs in a row of three: what is paid first for one must make place for two others.
        draw = random.Random(8)
        for web in MANY + LARGE:
            for lengths in drawn_lengths(web, 25):
                for _ in range(4):
                    self.check(web, lengths, drawn_prices(web, draw))

    def test_nothing_to_measure(self):
        for web, lengths in [(ALONE, ()), (LINE, (1, 2, 3)), (CLEAR, (1, 1, 5)), (TWIN, (5, 5))]:
            self.assertEqual(exact(cheapest(web, lengths, (9,) * len(lengths))), exact(((), {})))
            self.assertIs(is_cheapest(web, lengths, (9,) * len(lengths), ((), {})), True)

    def test_beyond(self):
        lengths = tuple(row[2] for row in BEYOND[1])
        prices = tuple(range(95, 106))
        self.assertIs(is_cheapest(BEYOND, lengths, prices, cheapest(BEYOND, lengths, prices)), True)

    def test_results_are_new(self):
        cheapest(ROUGH, (2, 2, 5), (5, 1, 2))[1].clear()
        self.assertEqual(cheapest(ROUGH, (2, 2, 5), (5, 1, 2)), ((2,), {(0, 2): 2}))


class IsCheapestTest(unittest.TestCase):
    def check(self, web, lengths, prices, value):
        right = cheapest_ok(web, lengths, prices, value)
        self.assertIs(is_cheapest(web, lengths, prices, value), right, (web, lengths, prices, value))
        return right

    def test_changed(self):
        draw = random.Random(9)
        seen = set()
        cases = [(web, lengths) for web in TRIED[::3] for lengths in drawn_lengths(web, 1)]
        cases += [(COMMON[0], CLOSE), (COMMON[1], CLOSE), (PAIRS[1], (0, 3, 0, 3)), (MANY[2], (3, 2, 4, 9, 8, 7, 12))]
        for web, lengths in cases:
            for prices in [(1,) * len(web[1]), drawn_prices(web, draw)]:
                for value in changed(cheapest(web, lengths, prices)):
                    seen.add(self.check(web, lengths, prices, value))
        self.assertEqual(seen, {True, False})

    def test_all_roads_and_payments(self):
        # All small payments for the pairs of some webs, and some that are no pairs, or not unsure, or have a
        # compulsory road.
        seen = set()
        for web, lengths in [(ROUGH, (2, 2, 5)), (ROUGH, (3, 2, 3)), (WIDE, (1, 5)), (PAIRS[0], (0, 3)),
                             (PAIRS[0], (2, 3)), (PAIRS[1], (0, 3, 0, 3)), (PAIRS[1], (2, 3, 0, 3)), (TIED, (5, 4)),
                             (MANY[2][:1] + (MANY[2][1][:5],), (1, 2, 3, 9, 10))]:
            pairs = sorted({*free_pairs(web, lengths), (0, 1), (1, 0)})
            for prices in [(1,) * len(web[1]), (2, 1, 2, 3, 1)[:len(web[1])], (2,) * len(web[1])]:
                for roads in all_choices(web):
                    for amounts in itertools.product((None, 1, 2), repeat=min(4, len(pairs))):
                        payments = {pair: amount for pair, amount in zip(pairs, amounts) if amount}
                        seen.add((self.check(web, lengths, prices, (roads, payments)), bool(payments)))
        self.assertEqual(len(seen), 4)

    def test_payments(self):
        web, lengths, prices = PAIRS[1], (0, 3, 0, 3), (1, 2, 5, 4)
        good = {(0, 1): 1, (2, 3): 4}
        self.assertIs(is_cheapest(web, lengths, prices, ((0, 3), good)), True)
        self.assertIs(is_cheapest(web, lengths, prices, ((0, 3), {(2, 3): 4, (0, 1): 1})), True)
        for payments in [{(0, 1): 1}, {(0, 1): 1, (2, 3): 3}, {(0, 1): 1, (2, 3): 5}, {(0, 1): 2, (2, 3): 3},
                         {(0, 1): 0, (2, 3): 4}, {(0, 1): 0, (2, 3): 5}, {(0, 1): -1, (2, 3): 6},
                         {(1, 0): 1, (2, 3): 4}, {(0, 1): 1, (3, 2): 4}, {(0, 1): True, (2, 3): 4}, {0: 1, 2: 4},
                         {(0, 3): 1, (2, 3): 4}, {(0, 1): 1, (2, 1): 4}, {(0, 1): 1, (2, 3): 4, (0, 3): 0},
                         {(0, 1): 1, (2, 3): 4, (0, 2): 1}, {(0, 1): 1, (2, 3): 4, (): 0}, {(False, 1): 1, (2, 3): 4},
                         {(0, True): 1, (2, 3): 4}, {(0, 1): "1", (2, 3): 4}, {(0, 1): (1,), (2, 3): 4},
                         {(0, 1): 1, (2, 3): 4, None: 0}, {(0, 1): 1, (2, 3): 4, (0, 1, 2): 0}, {},
                         {(0, 1): 1, (2, 3): None}, {"(0, 1)": 1, (2, 3): 4}, [((0, 1), 1), ((2, 3), 4)], (), None]:
            self.assertIs(is_cheapest(web, lengths, prices, ((0, 3), payments)), False, payments)
        for roads in [(0,), (3,), (0, 2), (1, 3), (0, 1, 3), (0, 3, 3), (3, 0), [0, 3], (False, 3), (0, 4), (0, -1),
                      (), (0, 1, 2, 3), ("0", 3), None, 0, {0: 3}]:
            self.assertIs(is_cheapest(web, lengths, prices, (roads, good)), False, roads)
        for value in [((0, 3),), ((0, 3), good, ()), [(0, 3), good], (good, (0, 3)), good, (0, 3),
                      {0: (0, 3), 1: good}]:
            self.assertIs(is_cheapest(web, lengths, prices, value), False, value)

    def test_payments_of_pairs_with_a_compulsory_road(self):
        # Road 0 is compulsory. Its price counts, but nothing is paid for its pairs, although the sums would agree.
        web, lengths = PAIRS[1], (2, 3, 0, 3)
        self.assertEqual([sorted(grounds(web, lengths)), free_pairs(web, lengths)], [[1], [(2, 3)]])
        self.assertIs(is_cheapest(web, lengths, (1, 1, 1, 1), ((1, 2), {(2, 3): 1})), True)
        self.assertIs(is_cheapest(web, lengths, (1, 1, 1, 1), ((1, 3), {(2, 3): 1})), True)
        for value in [((1, 2), {(2, 3): 1, (0, 1): 1}), ((0, 1, 2), {(2, 3): 1, (0, 1): 1}), ((1, 2), {(0, 1): 1}),
                      ((0, 1, 2), {(2, 3): 1}), ((2,), {}), ((1,), {}), ((1, 2), {})]:
            self.assertIs(is_cheapest(web, lengths, (1, 1, 1, 1), value), False, value)

    def test_payments_below_one(self):
        # Road 0 alone fixes both pairs, whatever is paid for which; a payment of 0 or less changes no sum here.
        web, lengths, prices = (2, ((0, 1, 0, 2), (0, 1, 1, 3), (0, 1, 1, 4))), (0, 3, 3), (2, 5, 5)
        self.assertEqual(free_pairs(web, lengths), [(0, 1), (0, 2)])
        for one, other, right in [(1, 1, True), (2, None, True), (None, 2, True), (2, 0, False), (0, 2, False),
                                  (3, -1, False), (-1, 3, False), (-3, 5, False), (1, True, False), (2, False, False)]:
            payments = {pair: amount for pair, amount in zip([(0, 1), (0, 2)], [one, other]) if amount is not None}
            self.assertIs(self.check(web, lengths, prices, ((0,), payments)), right, payments)

    def test_other_cheapest_papers(self):
        # Two papers are right for equal prices, and several payments.
        web, lengths = MANY[2], (1, 2, 3, 10, 11, 12, 13)
        right = [roads for roads in fixing_choices(web, lengths)]
        found = cheapest(web, lengths, (1,) * 7)
        for roads in right:
            self.check(web, lengths, (1,) * 7, (roads, found[1]))
        for prices in [(1,) * 7, (2, 3, 1, 4, 1, 2, 2)]:
            pairs = free_pairs(web, lengths)
            for seed in range(300):
                draw = random.Random(seed)
                payments = {pair: draw.randint(1, 2) for pair in pairs if draw.random() < 0.25}
                for roads in right[:6] + [cheapest(web, lengths, prices)[0]]:
                    self.check(web, lengths, prices, (roads, payments))

    def test_any_value(self):
        web, lengths, prices = ROUGH, (2, 2, 5), (5, 1, 2)
        good = ((2,), {(0, 2): 2})
        for value in odd_values() + [web, lengths, prices]:
            self.assertIs(is_cheapest(web, lengths, prices, value), False, value)
            self.assertIs(is_cheapest(web, lengths, prices, (value, good[1])), False, value)
            self.assertIs(is_cheapest(web, lengths, prices, (good[0], value)), False, value)
            self.assertIs(is_cheapest(web, lengths, prices, (good[0], {(0, 2): value})), False, value)
            self.assertIs(is_cheapest(web, lengths, prices, (good[0] + (value,), good[1])), False, value)
            self.assertIs(is_cheapest(ALONE, (), (), (value, {})), False)
            self.assertIs(is_cheapest(ALONE, (), (), ((), value)), exact(value) == "{}")
        self.assertIs(is_cheapest(web, lengths, prices, good), True)


if __name__ == "__main__":
    unittest.main()
