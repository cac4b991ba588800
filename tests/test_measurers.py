import copy
import itertools
import random
import unittest

from checks import check_equal
from measurer_model import Model, drawn_call, drawn_prices, least_price, make, told_by
from roughroads import errors
from roughroads.cheapest import cheapest
from roughroads.measurers import Measurer
from roughroads.opponents import Opponent
from roughroads.witnesses import find_witness
from samples import ALONE, BEYOND, CLEAR, LARGE, LINE, ROUGH, SMALL, TIED, TWIN, WIDE
from samples import all_lengths, drawn_webs, exact, odd_values

TRIED = SMALL + [TIED, WIDE] + drawn_webs(40)
PRICES = (2, 1, 1)
UNLIKE = [True, False, None, "0", "1", (), (0,), [], [0], {}, {0: 0}]
FAR = [-1, 3, 4, 7, 10, 99, 100, 10 ** 60 - 1, 1 - 10 ** 60]
BUSY = [("narrow", 0, 2, 4), ("tell", 2, 3), ("narrow", 1, 2, 2)]
ONES = (2, ((0, 1, 0, 1), (0, 1, 0, 2)))


class ExamplesTest(unittest.TestCase):
    def test_examples(self):
        measurer = Measurer(ROUGH, (2, 1, 1))
        self.assertEqual(exact([measurer.asked(), measurer.owed(), measurer.tell(2, 3), measurer.asked(),
                                measurer.owed(), measurer.tree()]), exact([(2,), 1, None, (0, 2), 2, None]))
        self.assertEqual(exact([entry[:2] + entry[3:] for entry in measurer.ledger()]),
                         exact([(2, (0, 1), (0,), ((1, 4), (3, 6)), 1), (0, (2, 1), (), ((1, 4),), 1)]))
        self.assertEqual(exact([measurer.tell(0, 2), measurer.tree(), measurer.paid(), measurer.extra(),
                                measurer.undo(), measurer.wanted()]),
                         exact([None, (0, 1), 3, 0, ("tell", 0, 2), (0,)]))
        with self.assertRaises(errors.InvalidRoad) as caught:
            measurer.tell(2, 3)
        self.assertEqual(caught.exception.road, 2)

    def test_at_first(self):
        for web in TRIED + LARGE + [BEYOND]:
            for prices in [(1,) * len(web[1]), tuple(range(1, len(web[1]) + 1))]:
                model = Model(self, web, prices)
                self.assertEqual(len(model.measurer.record()), find_witness(web) is not None)
                self.assertIsNone(model.measurer.undo())
                model.check()

    def test_fixed_web(self):
        for web, tree in [(CLEAR, (0, 1)), (ALONE, ()), (LINE, (0, 1, 2)), (TWIN, (0,))]:
            measurer = Measurer(web, (3,) * len(web[1]))
            self.assertEqual(exact([measurer.tree(), measurer.asked(), measurer.wanted(), measurer.owed(),
                                    measurer.paid(), measurer.extra(), measurer.ledger(), measurer.record(),
                                    measurer.told(), measurer.undo()]),
                             exact([tree, (), (), 0, 0, 0, [], [], {}, None]))

    def test_settled_web_that_is_not_fixed(self):
        model = Model(self, TIED, (4, 3))
        self.assertEqual([model.measurer.tree(), model.measurer.asked(), model.measurer.owed()], [None, (1,), 3])
        model.call("tell", 1, 5)
        self.assertEqual([model.measurer.tree(), model.measurer.paid()], [(0,), 3])


class RefusedTest(unittest.TestCase):
    """What raises an error changes nothing, neither what the measurer tells nor what undo takes back."""

    def check_refused(self, web, prices, calls, refused):
        model = Model(self, web, prices)
        for call in calls:
            self.assertIsNone(model.call(*call), call)
        same = make(web, prices, calls)
        before = told_by(model.measurer)
        for call in refused:
            self.assertIsNotNone(model.call(*call), call)
            self.assertEqual(told_by(model.measurer), before, call)
            self.assertTrue(model.measurer == same and same == model.measurer, call)
        model.check()
        model.check_way_back()

    def test_any_value_as_a_road(self):
        values = [value for value in odd_values() if exact(value) not in ("0", "1")] + UNLIKE + FAR
        self.check_refused(ROUGH, PRICES, BUSY, [("tell", value, 2) for value in values])
        self.check_refused(ROUGH, PRICES, BUSY, [("narrow", value, 2, 2) for value in values])
        self.check_refused(ONES, (1, 2), [], [(word, value, *rest) for value in (True, False, "0", 2, -1)
                                              for word, *rest in (("tell", 1), ("narrow", 1, 1))])

    def test_any_value_as_a_length(self):
        values = odd_values() + UNLIKE + [-5, 5, 6, 10 ** 59]
        self.check_refused(ROUGH, PRICES, BUSY, [("tell", 0, value) for value in values])
        self.check_refused(ONES, (1, 2), [], [("tell", road, value) for road in (0, 1)
                                              for value in (True, False, None, "1", -1, 3)])
        self.check_refused(ROUGH, PRICES, [("narrow", 0, 2, 3)], [("tell", 0, 1), ("tell", 0, 4), ("tell", 2, 2),
                                                                  ("tell", 2, 7), ("tell", 1, 4)])

    def test_any_values_as_bounds(self):
        calls = []
        for value in odd_values() + UNLIKE:
            if type(value) is not int:
                calls += [("narrow", 0, value, 4), ("narrow", 0, 2, value), ("narrow", 0, value, value)]
        calls += [("narrow", 0, low, high) for low, high in [
            (1, 4), (2, 5), (1, 5), (4, 2), (3, 2), (-1, 3), (0, 99), (5, 5), (1, 1), (10 ** 59, 10 ** 59), (4, 3),
            (2, 10 ** 59), (-(10 ** 59), 4)]]
        self.check_refused(ROUGH, PRICES, BUSY, calls)
        self.check_refused(ROUGH, PRICES, BUSY, [("narrow", 1, 2, 3), ("narrow", 1, 1, 2), ("narrow", 1, 3, 3)])
        self.check_refused(ONES, (1, 2), [], [("narrow", 0, False, 1), ("narrow", 0, 0, True), ("narrow", 0, 0, 2),
                                              ("narrow", 0, False, True), ("narrow", 0, True, True),
                                              ("narrow", 0, -1, 1), ("narrow", 1, 0, 3), ("narrow", 1, 2, 1)])

    def test_roads_that_were_told(self):
        self.check_refused(ROUGH, PRICES, [("tell", 2, 3), ("tell", 1, 3)],
                           [("tell", 2, 3), ("tell", 2, 4), ("narrow", 2, 3, 3), ("tell", 1, 3), ("narrow", 1, 3, 3),
                            ("tell", 2, None), ("narrow", 1, 4, 2), ("narrow", 2, "", [])])

    def test_several_wrong_at_once(self):
        for calls in ([], BUSY):
            self.check_refused(ROUGH, PRICES, calls, [
                ("tell", 3, 0), ("tell", None, None), ("tell", True, True), ("tell", [], {}), ("tell", -1, 10 ** 59),
                ("narrow", 3, 3, 2), ("narrow", "1", "0", "2"), ("narrow", None, 9, 2), ("narrow", False, True, 0),
                ("narrow", -1, -1, -1), ("narrow", [0], [1], [2]), ("narrow", 0, 9, 2), ("narrow", 1, None, 99),
                ("narrow", 0, True, 99)])


class CallsTest(unittest.TestCase):
    def test_told_without_being_asked(self):
        model = Model(self, ROUGH, PRICES)
        self.assertEqual(model.measurer.asked(), (2,))
        self.assertIsNone(model.call("tell", 1, 2))
        self.assertEqual([model.measurer.paid(), model.measurer.extra()], [0, 1])
        model.check()
        self.assertIsNone(model.call("tell", 0, 4))
        self.assertEqual([model.measurer.paid(), model.measurer.extra()], [0, 3])
        model.check()
        self.assertIsNone(model.call("tell", 2, 6))
        self.assertEqual([model.measurer.paid(), model.measurer.extra(), model.measurer.told()],
                         [1, 3, {1: 2, 0: 4, 2: 6}])
        model.check_way_back()

    def test_asked_only_after_it_was_told(self):
        # Road 0 is told before it is asked, and never asked after that; its price stays with extra.
        for road, length in itertools.product(range(3), range(7)):
            model = Model(self, ROUGH, (5, 4, 3))
            if model.call("tell", road, length) is None:
                model.check()
                wanted = model.measurer.wanted()
                self.assertNotIn(road, wanted)
                for other in wanted:
                    self.assertIsNone(model.call("tell", other, model.measurer.web()[1][other][2]))
                    model.check()

    def test_narrowed_to_one_length(self):
        model = Model(self, ROUGH, PRICES)
        self.assertIsNone(model.call("narrow", 2, 4, 4))
        self.assertEqual([model.measurer.told(), model.measurer.paid(), model.measurer.tree()], [{}, 0, (0, 1)])
        self.assertIsNone(model.call("narrow", 2, 4, 4))
        self.assertIsNone(model.call("tell", 2, 4))
        self.assertEqual([model.measurer.told(), model.measurer.paid()], [{2: 4}, 1])
        self.assertEqual(model.call("tell", 2, 4), "InvalidRoad")
        model.check_way_back()

    def test_narrowed_to_the_same_bounds(self):
        model = Model(self, ROUGH, PRICES)
        before = told_by(model.measurer)
        self.assertIsNone(model.call("narrow", 0, 1, 4))
        self.assertEqual(model.measurer.record()[-1], ("narrow", 0, 1, 4))
        self.assertNotEqual(model.measurer, Measurer(ROUGH, PRICES))
        self.assertEqual(model.measurer.undo(), ("narrow", 0, 1, 4))
        self.assertEqual([told_by(model.measurer), model.measurer.undo()], [before, None])
        self.assertEqual(model.measurer, Measurer(ROUGH, PRICES))

    def test_narrowed_step_by_step_and_told(self):
        model = Model(self, WIDE, (3, 4))
        for call in [("narrow", 0, 1, 8), ("narrow", 0, 1, 8), ("narrow", 0, 3, 8), ("narrow", 1, 3, 5),
                     ("narrow", 0, 4, 5), ("tell", 0, 4), ("narrow", 1, 5, 5), ("tell", 1, 5)]:
            self.assertIsNone(model.call(*call), call)
            model.check()
        self.assertEqual(model.measurer.web(), (2, ((0, 1, 4, 4), (0, 1, 5, 5))))
        model.check_way_back()

    def test_asked_roads_stay_asked(self):
        # Narrowing may make another witness of another web, of which no road is asked: then there is a round.
        web = (3, ((0, 1, 1, 4), (0, 1, 2, 5), (1, 2, 1, 4), (1, 2, 2, 5)))
        for prices in [(1, 1, 1, 1), (3, 2, 2, 3), (2, 3, 1, 9)]:
            model = Model(self, web, prices)
            for call in [("narrow", 0, 1, 3), ("tell", 0, 1), ("narrow", 2, 2, 4), ("tell", 3, 3), ("tell", 2, 2)]:
                before = model.measurer.asked()
                self.assertIsNone(model.call(*call), call)
                self.assertLessEqual(set(before), set(model.measurer.asked()))
                model.check()
            self.assertIsNotNone(model.measurer.tree())
            model.check_way_back()

    def test_rests_that_are_lowered_twice(self):
        # Three roads beside each other: the first round lowers the rest of a road that the second one asks.
        web = (2, ((0, 1, 0, 9), (0, 1, 1, 10), (0, 1, 2, 11)))
        seen = set()
        for prices in itertools.product((1, 2, 5), repeat=3):
            model = Model(self, web, prices)
            while model.measurer.tree() is None:
                road = model.measurer.wanted()[0]
                self.assertIsNone(model.call("tell", road, sum(model.measurer.web()[1][road][2:]) // 2))
                model.check()
            rounds = [entry[2] for entry in model.measurer.record() if entry[0] == "round"]
            seen.add(len(rounds))
            model.check_way_back()
        self.assertTrue({2} <= seen, seen)

    def test_histories(self):
        seen = set()
        for at, web in enumerate(TRIED):
            if web == ALONE:
                continue
            for seed in range(3):
                draw = random.Random(10 * at + seed)
                model = Model(self, web, drawn_prices(web, draw))
                for _ in range(12):
                    call = drawn_call(*model.known()[:2], draw)
                    before, many = model.measurer.asked(), len(model.entries)
                    if call is None or draw.random() < 0.25:
                        model.undo()
                    else:
                        self.assertIsNone(model.call(*call), call)
                        model.check_asked(before)
                        seen.add((call[0], len(model.entries) - many))
                    model.check()
                model.check_way_back()
        self.assertEqual(seen, {("tell", 1), ("tell", 2), ("narrow", 1), ("narrow", 2)})

    def test_wanted_roads_one_after_the_other(self):
        # Who tells what is wanted knows the tree at last, and pays nothing extra.
        for at, web in enumerate(TRIED + LARGE):
            draw = random.Random(at)
            for prices in [(1,) * len(web[1]), drawn_prices(web, draw)]:
                measurer = Measurer(web, prices)
                while measurer.tree() is None:
                    self.assertNotEqual(measurer.wanted(), ())
                    self.assertLessEqual(set(measurer.wanted()), set(measurer.asked()) - set(measurer.told()))
                    road = draw.choice(measurer.wanted())
                    measurer.tell(road, draw.choice(measurer.web()[1][road][2:]))
                self.assertEqual([measurer.wanted(), measurer.extra()], [(), 0])
                self.assertLessEqual(measurer.paid(), 2 * measurer.owed())

    def test_long_history(self):
        for web in [LARGE[0], LARGE[1], ROUGH]:
            draw = random.Random(2)
            model = Model(self, web, drawn_prices(web, draw))
            for _ in range(130):
                low = [road for road, row in enumerate(model.known()[0][1]) if row[2] < row[3]]
                call = drawn_call(*model.known()[:2], draw)
                if call is None or (call[0] == "tell" and draw.random() < 0.8) or not low:
                    call = ("narrow", *self.narrower(model, draw)) if self.narrower(model, draw) else None
                if call is None:
                    model.undo()
                else:
                    self.assertIsNone(model.call(*call))
            model.check()
            self.assertGreater(len(model.entries), 60)
            model.check_way_back()

    def narrower(self, model, draw):
        """Return a road that was not told, with bounds that are narrower by one at one end, or the same."""
        web, told, _ = model.known()
        roads = [road for road in range(len(web[1])) if road not in told]
        if not roads:
            return None
        road = draw.choice(roads)
        low, high = web[1][road][2:]
        if low < high and draw.random() < 0.5:
            return draw.choice([(road, low + 1, high), (road, low, high - 1)])
        return road, low, high

    def test_beyond(self):
        model = Model(self, BEYOND, tuple(range(95, 106)))
        while model.measurer.tree() is None:
            road = model.measurer.wanted()[-1]
            self.assertIsNone(model.call("tell", road, model.measurer.web()[1][road][3]))
            model.check()
        model.check_way_back()


class OwedTest(unittest.TestCase):
    """Point [24]: nobody pays less than owed(), and the asked roads cost at most twice that."""

    def test_all_lengths_that_are_possible(self):
        for at, web in enumerate(drawn_webs(45) + [ROUGH, TIED, WIDE] + SMALL[10:16]):
            for seed in range(2):
                draw = random.Random(10 * at + seed)
                prices = drawn_prices(web, draw)
                measurer = Measurer(web, prices)
                for _ in range(5):
                    possible = all_lengths(measurer.web())
                    owed = measurer.owed()
                    self.assertLessEqual(sum(prices[road] for road in measurer.asked()), 2 * owed)
                    for lengths in possible[::len(possible) // 12 + 1]:
                        self.assertLessEqual(owed, least_price(web, lengths, prices), (web, prices, lengths))
                    call = drawn_call(measurer.web(), measurer.told(), draw)
                    if call is not None:
                        getattr(measurer, call[0])(*call[1:])

    def test_large_webs(self):
        # Here a cheapest paper tells what has to be paid for some lengths.
        for web in LARGE:
            for seed in range(6):
                draw = random.Random(seed)
                prices = drawn_prices(web, draw)
                lengths = tuple(draw.randint(*row[2:]) for row in web[1])
                measurer = Measurer(web, prices)
                while measurer.tree() is None:
                    road = measurer.wanted()[-1]
                    measurer.tell(road, lengths[road])
                least = sum(prices[road] for road in cheapest(web, lengths, prices)[0])
                self.assertLessEqual(measurer.owed(), least)
                self.assertLessEqual(measurer.paid(), 2 * least)

    def test_opponents(self):
        for pairs in range(1, 6):
            opponent = Opponent(pairs)
            measurer = Measurer(opponent.web(), (1,) * 2 * pairs)
            while measurer.tree() is None:
                road = measurer.wanted()[0]
                measurer.tell(road, opponent.answer(road))
            self.assertEqual([measurer.owed(), measurer.paid(), len(opponent.best())], [pairs, 2 * pairs, pairs])


class UndoTest(unittest.TestCase):
    def test_nothing_to_take_back(self):
        measurer = Measurer(ROUGH, PRICES)
        before = told_by(measurer)
        for _ in range(3):
            self.assertEqual([measurer.undo(), told_by(measurer)], [None, before])
        measurer.tell(2, 3)
        self.assertEqual([measurer.undo(), measurer.undo(), told_by(measurer)], [("tell", 2, 3), None, before])

    def test_rounds_behind_the_call_are_taken_back(self):
        measurer = Measurer(ROUGH, PRICES)
        states = [told_by(measurer)]
        calls = [("narrow", 0, 1, 4), ("tell", 2, 3), ("narrow", 0, 2, 4), ("tell", 1, 2), ("tell", 0, 3)]
        for word, *given in calls:
            getattr(measurer, word)(*given)
            states.append(told_by(measurer))
        self.assertEqual(len(set(states)), 6)
        for call in calls[::-1]:
            self.assertEqual(states.pop(), told_by(measurer))
            self.assertEqual(exact(measurer.undo()), exact(call))
        self.assertEqual([states, measurer.undo()], [[told_by(measurer)], None])

    def test_road_may_be_told_again(self):
        model = Model(self, ROUGH, PRICES)
        for length in (3, 4, 5, 6, 3):
            self.assertIsNone(model.call("tell", 2, length))
            model.check()
            model.undo()
            model.check()
        self.assertIsNone(model.call("narrow", 2, 4, 5))
        self.assertEqual(model.call("narrow", 2, 3, 6), "InvalidBounds")
        model.undo()
        self.assertIsNone(model.call("narrow", 2, 3, 6))
        model.check_way_back()


class EqualTest(unittest.TestCase):
    def test_same_calls(self):
        for calls in [[], BUSY, BUSY[:1], BUSY[:2]]:
            check_equal(self, make(ROUGH, PRICES, calls), make(ROUGH, PRICES, calls), True)
        measurer = make(ROUGH, PRICES, BUSY)
        check_equal(self, measurer, measurer, True)

    def test_taken_back_and_made_again(self):
        measurer = make(ROUGH, PRICES, [("tell", 2, 3), ("tell", 0, 2), ("undo",), ("tell", 0, 2)])
        check_equal(self, measurer, make(ROUGH, PRICES, [("tell", 2, 3), ("tell", 0, 2)]), True)
        measurer = make(ROUGH, PRICES, [("tell", 2, 5), ("undo",), ("undo",)])
        check_equal(self, measurer, make(ROUGH, PRICES, []), True)
        check_equal(self, measurer, make(ROUGH, PRICES, [("tell", 2, 5)]), False)

    def test_other_prices(self):
        for one, other in [((2, 1, 1), (2, 1, 2)), ((2, 1, 1), (1, 1, 1)), ((2, 1, 1), (2, 2, 1))]:
            check_equal(self, make(ROUGH, one, []), make(ROUGH, other, []), False)
            check_equal(self, make(ROUGH, one, BUSY), make(ROUGH, other, BUSY), False)
        # Here the records are equal.
        one, other = Measurer(CLEAR, (1, 2, 3)), Measurer(CLEAR, (1, 2, 4))
        self.assertEqual(one.record(), other.record())
        check_equal(self, one, other, False)

    def test_other_webs(self):
        for one, other in [(CLEAR, (3, CLEAR[1][:2] + ((0, 2, 5, 7),))), (LINE, ROUGH),
                           (LINE, (4, LINE[1][:2] + ((1, 3, 3, 6),)))]:
            check_equal(self, Measurer(one, (1, 1, 1)), Measurer(other, (1, 1, 1)), False)
        # Here the webs are equal behind the calls, and the records are, too.
        one = make((2, ((0, 1, 1, 3),)), (1,), [("tell", 0, 2)])
        other = make((2, ((0, 1, 1, 4),)), (1,), [("tell", 0, 2)])
        self.assertEqual([one.web(), one.record()], [other.web(), other.record()])
        check_equal(self, one, other, False)

    def test_other_order(self):
        calls = [("tell", 1, 2), ("narrow", 0, 2, 4)]
        check_equal(self, make(ROUGH, PRICES, calls), make(ROUGH, PRICES, calls[::-1]), False)
        check_equal(self, make(ROUGH, PRICES, [("tell", 1, 2)]), make(ROUGH, PRICES, [("narrow", 1, 2, 2)]), False)
        check_equal(self, make(ROUGH, PRICES, [("tell", 1, 2)]), make(ROUGH, PRICES, [("tell", 1, 3)]), False)
        check_equal(self, make(ROUGH, PRICES, [("narrow", 1, 2, 3)]), make(ROUGH, PRICES, []), False)
        check_equal(self, make(ROUGH, PRICES, calls), make(ROUGH, PRICES, calls[:1]), False)

    def test_values_that_are_no_measurer(self):
        measurer = make(ROUGH, PRICES, BUSY)
        for value in odd_values() + [ROUGH, PRICES, measurer.record(), (ROUGH, PRICES, measurer.record()), Measurer,
                                     Opponent(1), errors.InvalidRoad(1), object()]:
            check_equal(self, measurer, value, False)

    def test_choices_depend_on_the_calls_that_are_left_alone(self):
        for at, web in enumerate(TRIED):
            draw = random.Random(at)
            prices = drawn_prices(web, draw)
            measurer, calls = Measurer(web, prices), []
            for _ in range(14):
                call = drawn_call(measurer.web(), measurer.told(), draw)
                if call is None or draw.random() < 0.35:
                    self.assertEqual(measurer.undo(), calls.pop() if calls else None)
                else:
                    getattr(measurer, call[0])(*call[1:])
                    calls.append(call)
                told_by(measurer)
            check_equal(self, measurer, make(web, prices, calls), True)
            self.assertEqual(told_by(measurer), told_by(make(web, prices, calls)))


class CopiesTest(unittest.TestCase):
    def test_what_was_told_may_be_changed(self):
        measurer = make(ROUGH, PRICES, BUSY)
        before = told_by(measurer)
        for value in [measurer.told(), measurer.ledger(), measurer.record()]:
            value.clear()
        measurer.told()[0] = 3
        measurer.record().append(("tell", 0, 3))
        measurer.ledger().append("spoilt")
        self.assertEqual(told_by(measurer), before)
        self.assertEqual(measurer, make(ROUGH, PRICES, BUSY))
        self.assertEqual(measurer.undo(), BUSY[-1])

    def test_what_was_told_does_not_change(self):
        measurer, kept = Measurer(ROUGH, PRICES), []
        for call in [("narrow", 0, 2, 4), ("tell", 2, 3), ("tell", 0, 3), ("undo",), ("narrow", 1, 3, 3), ("undo",)]:
            values = [measurer.told(), measurer.ledger(), measurer.record(), measurer.asked(), measurer.web()]
            kept.append((values, copy.deepcopy(values)))
            getattr(measurer, call[0])(*call[1:])
        for values, before in kept:
            self.assertEqual(exact(values), exact(before))

    def test_two_measurers_share_nothing(self):
        one, other = make(ROUGH, PRICES, BUSY[:2]), make(ROUGH, PRICES, BUSY[:2])
        before = told_by(other)
        one.tell(0, 3)
        one.undo()
        one.undo()
        self.assertEqual([told_by(other), other.undo()], [before, BUSY[1]])

    def test_web_and_prices_stay_as_they_were_given(self):
        web, prices = (3, tuple(ROUGH[1])), tuple([2, 1, 1])
        measurer = make(web, prices, BUSY)
        self.assertEqual([web, prices, measurer.prices()], [ROUGH, PRICES, PRICES])
        while measurer.undo() is not None:
            pass
        self.assertEqual([measurer.web(), measurer.prices()], [ROUGH, PRICES])


if __name__ == "__main__":
    unittest.main()
