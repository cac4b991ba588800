import itertools
import unittest

from checks import check_equal
from oracles import all_choices
from roughroads import errors
from roughroads.fixing import fixes
from roughroads.opponents import Opponent
from samples import ROUGH, exact, odd_values


def right_answer(road, before):
    """Return the length of a road, when the roads before were answered already."""
    other = road - 1 if road % 2 else road + 1
    return {(0, False): 2, (1, True): 3, (1, False): 1, (0, True): 0}[road % 2, other in before]


def asked(pairs, roads):
    opponent = Opponent(pairs)
    for road in roads:
        opponent.answer(road)
    return opponent


class OpponentTest(unittest.TestCase):
    def test_examples(self):
        opponent = Opponent(1)
        self.assertEqual(exact([opponent.web(), opponent.answer(0), opponent.best(), opponent.answer(1),
                                opponent.best(), fixes(opponent.web(), (2, 3), (1,))]),
                         exact([(2, ((0, 1, 0, 2), (0, 1, 1, 3))), 2, None, 3, (1,), True]))

    def test_webs(self):
        for pairs in range(1, 8):
            size, rows = Opponent(pairs).web()
            self.assertEqual([size, len(rows)], [pairs + 1, 2 * pairs])
            for at in range(pairs):
                self.assertEqual(exact(rows[2 * at:2 * at + 2]), exact(((at, at + 1, 0, 2), (at, at + 1, 1, 3))))

    def check_order(self, pairs, roads):
        """Ask for roads in an order, and check all that the opponent tells behind each answer."""
        opponent, before = Opponent(pairs), {}
        web = opponent.web()
        for road in roads:
            self.assertIsNone(opponent.best())
            right = right_answer(road, before)
            self.assertEqual(exact(opponent.answer(road)), exact(right))
            before[road] = right
            self.assertEqual(exact(opponent.answered()), exact(before))
            self.assertEqual(opponent.web(), web)
        second = [road for at, road in enumerate(roads) if road + 1 - road % 2 * 2 in roads[:at]]
        self.assertEqual(exact(opponent.best()), exact(tuple(sorted(second))))
        return opponent

    def test_all_orders(self):
        for pairs in range(1, 4):
            for roads in itertools.permutations(range(2 * pairs)):
                self.check_order(pairs, roads)

    def test_some_orders_of_large_ones(self):
        for pairs in (4, 5, 6):
            roads = list(range(2 * pairs))
            for order in (roads, roads[::-1], roads[::2] + roads[1::2], roads[1::2] + roads[::2],
                          roads[1::2] + roads[-2::-2], roads[3:] + roads[:3]):
                self.check_order(pairs, tuple(order))

    def test_all_roads_are_needed_by_who_does_not_know(self):
        for pairs in (1, 2, 3):
            for roads in itertools.permutations(range(2 * pairs)):
                opponent = asked(pairs, roads)
                web, told = opponent.web(), opponent.answered()
                lengths = tuple(told[road] for road in range(2 * pairs))
                for many in range(2 * pairs + 1):
                    self.assertIs(fixes(web, lengths, tuple(sorted(roads[:many]))), many == 2 * pairs)
                self.assertIs(fixes(web, lengths, opponent.best()), True)

    def test_best_is_the_only_least_one(self):
        for pairs in (1, 2):
            for roads in itertools.permutations(range(2 * pairs)):
                opponent = asked(pairs, roads)
                lengths = tuple(opponent.answered()[road] for road in range(2 * pairs))
                fixing = [chosen for chosen in all_choices(opponent.web()) if fixes(opponent.web(), lengths, chosen)]
                self.assertEqual([chosen for chosen in fixing if len(chosen) <= pairs], [opponent.best()])


class RefusedTest(unittest.TestCase):
    def check_refused(self, opponent, value):
        before = exact([opponent.answered(), opponent.best(), opponent.web()])
        with self.assertRaises(errors.RoughroadsError) as caught:
            opponent.answer(value)
        self.assertIs(type(caught.exception), errors.InvalidRoad)
        self.assertEqual(exact(caught.exception.road), exact(value))
        self.assertEqual(exact([opponent.answered(), opponent.best(), opponent.web()]), before)

    def test_any_value(self):
        unlike = [True, False, "0", "1", (0,), [0], {0: 0}, (), -2, 2, 3, 10, 10 ** 59]
        for roads in ((), (0,), (1,), (0, 1)):
            opponent = asked(1, roads)
            for value in odd_values() + unlike:
                if type(value) is not int or value not in (0, 1):
                    self.check_refused(opponent, value)
            self.assertEqual(sorted(opponent.answered()), sorted(roads))

    def test_roads_that_were_answered(self):
        for pairs in (1, 2, 5):
            opponent = Opponent(pairs)
            for road in range(2 * pairs):
                opponent.answer(road)
                for other in range(road + 1):
                    self.check_refused(opponent, other)
            self.check_refused(opponent, 2 * pairs)
            self.check_refused(opponent, -1)

    def test_refused_ones_do_not_count(self):
        opponent = Opponent(2)
        for value in (True, -1, 4, None, False):
            self.check_refused(opponent, value)
        self.assertEqual([opponent.answer(1), opponent.answer(0), opponent.answer(2), opponent.answer(3)], [1, 0, 2, 3])
        self.assertEqual(opponent.best(), (0, 3))


class EqualTest(unittest.TestCase):
    def test_pairs(self):
        for one, other in itertools.product(range(1, 6), repeat=2):
            check_equal(self, Opponent(one), Opponent(other), one == other)
        check_equal(self, asked(1, (0, 1)), asked(2, (0, 1)), False)

    def test_answers(self):
        for one, other in itertools.product([roads for many in range(5) for roads in
                                             itertools.permutations(range(4), many)], repeat=2):
            right = asked(2, one).answered() == asked(2, other).answered()
            check_equal(self, asked(2, one), asked(2, other), right)
        check_equal(self, asked(2, (0, 2)), asked(2, (2, 0)), True)
        check_equal(self, asked(2, (0, 1)), asked(2, (1, 0)), False)
        check_equal(self, asked(2, (0, 2, 1, 3)), asked(2, (2, 0, 3, 1)), True)
        opponent = asked(2, (3,))
        check_equal(self, opponent, opponent, True)

    def test_values_that_are_no_opponent(self):
        opponent = asked(1, (0,))
        for value in odd_values() + [ROUGH, opponent.web(), opponent.answered(), Opponent, 1, (1, {0: 2}),
                                     errors.InvalidRoad(1), object()]:
            check_equal(self, opponent, value, False)


class CopiesTest(unittest.TestCase):
    def test_what_was_told_may_be_changed(self):
        opponent = asked(2, (0, 3))
        told = opponent.answered()
        told.clear()
        opponent.answered()[1] = 3
        self.assertEqual(opponent.answered(), {0: 2, 3: 1})
        self.assertEqual([opponent.answer(1), opponent.answer(2), opponent.best()], [3, 0, (1, 2)])

    def test_what_was_told_does_not_change(self):
        opponent = asked(2, (0,))
        told = opponent.answered()
        opponent.answer(1)
        self.assertEqual(told, {0: 2})

    def test_two_opponents_share_nothing(self):
        one, other = Opponent(2), Opponent(2)
        one.answer(0)
        self.assertEqual([other.answered(), other.answer(1), one.answer(1)], [{}, 1, 3])


if __name__ == "__main__":
    unittest.main()
