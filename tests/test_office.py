import copy
import random
import unittest

from checks import check_equal
from office_model import Model, drawn_event, make, told
from oracles import all_trees, least, plan_serves
from roughroads import errors
from roughroads.logs import log
from roughroads.office import Office
from samples import ALONE, BEYOND, CLEAR, LARGE, LINE, ROUGH, SMALL, TWIN, all_lengths, drawn_webs, exact, odd_values

TRIED = SMALL + drawn_webs(30)
WEB_OF_ONES = (2, ((0, 1, 0, 1), (0, 1, 1, 2)))
TWICE_TWO = (2, ((0, 1, 2, 2), (0, 1, 2, 2), (0, 1, 2, 2)))
# Values that are like numbers, for each place where one is asked for.
UNLIKE = [True, False, None, "0", "1", (), (0,), [], [0], {}, {0: 0}]
FAR = [-1, 3, 4, 7, 10, 99, 100, 10 ** 60 - 1, 1 - 10 ** 60]
BUSY = [("build", 1), ("measure", 0, 3), ("build", 0), ("correct", 2, 4, 9), ("drop", 2), ("undo",), ("undo",)]


class ExamplesTest(unittest.TestCase):
    def test_examples(self):
        office = Office(ROUGH)
        self.assertIsNone(office.build(1))
        self.assertIsNone(office.measure(0, 3))
        self.assertEqual([office.options(), office.paper(), office.is_done()],
                         [[("build", 0), ("drop", 2)], {1: (0, 1)}, False])
        office.build(0)
        self.assertIsNone(office.drop(2))
        self.assertEqual([office.plan(), office.paper(), office.is_done()],
                         [((0, 1), (2,)), {0: (0,), 1: (0, 1), 2: (0, 1)}, True])
        self.assertEqual([office.undo(), office.undo(), office.redo(), office.plan()],
                         [("drop", 2), ("build", 0), ("build", 0), ((0, 1), ())])
        with self.assertRaises(errors.InvalidRoad) as caught:
            office.build(1)
        self.assertEqual(caught.exception.road, 1)
        with self.assertRaises(errors.InvalidBounds) as caught:
            office.correct(1, 3, 2)
        self.assertEqual(caught.exception.bounds, (3, 2))

    def test_at_first(self):
        for web in TRIED + LARGE + [BEYOND]:
            office = Office(web)
            self.assertEqual(exact([office.web(), office.plan(), office.paper(), log(office)]),
                             exact([web, ((), ()), {}, []]))
            self.assertEqual([office.undo(), office.redo()], [None, None])
            self.assertIs(office.is_done(), not web[1])
        office = Office(ALONE)
        self.assertEqual([office.options(), office.pending(), office.is_done()], [[], {}, True])

    def test_pending(self):
        office = Office(ROUGH)
        pending = office.pending()
        self.assertEqual([sorted(pending), pending[1][0]], [[0, 1, 2], None])
        for road, word, lengths in [(0, 0, pending[0][0]), (0, 1, pending[0][1]), (1, 1, pending[1][1]),
                                    (2, 0, pending[2][0]), (2, 1, pending[2][1])]:
            plan = ((), (road,)) if word else ((road,), ())
            self.assertIn(lengths, all_lengths(ROUGH))
            self.assertFalse(plan_serves(ROUGH, plan, lengths))
        office.build(1)
        self.assertEqual(sorted(office.pending()), [0, 2])


class RefusedTest(unittest.TestCase):
    """What raises an error changes nothing, neither what the office tells nor what undo and redo take."""

    def check_refused(self, web, events, calls):
        """Make calls that all raise an error, each on an office that has something to redo and to undo."""
        model = Model(self, web)
        for event in events:
            self.play(model, event)
        before = told(model.office)
        for call in calls:
            self.assertIsNotNone(model.call(*call), call)
            self.assertEqual(told(model.office), before, call)
        model.check()
        model.check_way_back()

    def play(self, model, event):
        if event[0] in ("undo", "redo"):
            getattr(model, event[0])()
        else:
            self.assertIsNone(model.call(*event), event)

    def test_any_value_as_a_road(self):
        values = [value for value in odd_values() if exact(value) not in ("0", "1")] + UNLIKE + FAR
        for words in (["build", "drop"], ["measure", "correct"]):
            rest = {"build": (), "drop": (), "measure": (3,), "correct": (1, 2)}
            self.check_refused(ROUGH, BUSY, [(word, value, *rest[word]) for word in words for value in values])

    def test_any_value_as_a_length(self):
        values = odd_values() + UNLIKE + [2, 7, 10 ** 59]
        self.check_refused(ROUGH, BUSY, [("measure", 2, value) for value in values])
        office = make(ROUGH, BUSY[:4])
        self.assertEqual(office.web()[1], ((0, 1, 3, 3), (1, 2, 2, 3), (0, 2, 4, 9)))
        self.check_refused(ROUGH, BUSY[:4], [("measure", 2, 3), ("measure", 2, 10), ("measure", 0, 2),
                                             ("measure", 0, 4), ("measure", 1, 1), ("measure", 1, 4)])
        # True is no length, although it is like 1, which is one.
        self.check_refused(WEB_OF_ONES, [], [("measure", 0, True), ("measure", 0, False), ("measure", 1, False)])

    def test_any_values_as_bounds(self):
        calls = []
        for value in odd_values() + UNLIKE:
            if type(value) is not int:
                calls += [("correct", 1, value, 9), ("correct", 1, 0, value), ("correct", 1, value, value)]
        for low, high in [(-1, 3), (3, 2), (0, 100), (100, 100), (99, 98), (-2, -1), (10 ** 59, 10 ** 59), (1, -1),
                          (-(10 ** 59), 10 ** 59), (1, 0)]:
            calls += [("correct", road, low, high) for road in range(3)]
        self.check_refused(ROUGH, BUSY, calls)
        self.check_refused(WEB_OF_ONES, [], [("correct", 0, False, True), ("correct", 0, 0, True),
                                             ("correct", 0, False, 1), ("correct", 1, True, True)])

    def test_any_values_as_a_row(self):
        calls = []
        for value in odd_values() + UNLIKE:
            for at in range(4):
                row = [0, 1, 1, 7]
                if type(value) is not int:
                    row[at] = value
                    calls.append(("add", *row))
        for row in [(0, 0, 1, 2), (1, 0, 1, 2), (0, 3, 1, 2), (2, 3, 1, 2), (3, 4, 1, 2), (-1, 0, 1, 2), (-2, 1, 1, 2),
                    (0, 1, 2, 1), (0, 1, -1, 1), (0, 1, 0, 100), (0, 1, 100, 100), (0, 10 ** 59, 1, 2),
                    (0, 1, 1, 10 ** 59), (2, 2, 1, 2), (2, 1, 2, 1), (False, True, 0, 1), (False, 1, 0, 0),
                    (0, True, 0, 0), (0, 1, False, 0), (0, 1, 0, True), (0, 1, False, False)]:
            calls.append(("add", *row))
        self.check_refused(ROUGH, BUSY, calls)
        self.check_refused(ALONE, [], [("add", 0, 1, 1, 1), ("add", 0, 0, 1, 1), ("add", 0, 0, 0, 0)])

    def test_bools_are_no_roads(self):
        self.check_refused(ROUGH, [], [(word, value, *rest) for value in (True, False)
                                       for word, *rest in (("build",), ("drop",), ("measure", 3), ("correct", 0, 9))])
        self.check_refused(CLEAR, [], [("build", True), ("build", False), ("drop", True)])

    def test_decided_roads(self):
        web = (4, ((0, 1, 1, 1), (1, 2, 1, 1), (2, 3, 1, 1), (0, 2, 5, 9), (1, 3, 5, 9)))
        events = [("build", 0), ("drop", 3), ("build", 2), ("drop", 4), ("undo",)]
        self.check_refused(web, events, [(word, road) for word in ("build", "drop") for road in (0, 2, 3, 5, -1)])
        self.check_refused(TWIN, [("build", 1)], [("build", 1), ("drop", 1), ("build", 0), ("drop", 2)])
        self.check_refused(CLEAR, [("build", 0), ("build", 1), ("drop", 2)],
                           [(word, road) for word in ("build", "drop") for road in range(4)])

    def test_several_wrong_at_once(self):
        for events in ([], BUSY):
            self.check_refused(ROUGH, events, [
                ("measure", 3, 0), ("measure", None, None), ("measure", True, True), ("measure", [], {}),
                ("measure", -1, 10 ** 59), ("correct", 3, 3, 2), ("correct", "1", "0", "2"), ("correct", None, 2, 2),
                ("correct", -1, -1, -1), ("correct", False, True, 0), ("correct", 3, 0, 0), ("correct", [0], [1], [2]),
                ("add", 1, 0, 3, 2), ("add", None, None, None, None), ("add", [], {}, (), ""), ("add", 0, 0, 2, 100)])

    def test_bounds_that_would_be_unsafe_too(self):
        # If road 2 were that short, it would be wrong to have built road 0.
        model = Model(self, CLEAR)
        model.call("build", 0)
        self.assertEqual(model.call("correct", 2, 0, 1), "Unsafe")
        for low, high in [(1, 0), (-1, 0), (0, 100), (0, True), (None, 0)]:
            self.assertEqual(model.call("correct", 2, low, high), "InvalidBounds")
        for road in (3, -1, True, None):
            self.assertEqual(model.call("correct", road, 0, 1), "InvalidRoad")
        self.assertEqual(model.call("add", 0, 1, 0, 0), "Unsafe")
        for row in [(1, 0, 0, 0), (0, 1, 0, False), (0, 1, 1, 0), (0, 3, 0, 0)]:
            self.assertEqual(model.call("add", *row), "InvalidRoad")
        model.check()

    def test_ten_roads(self):
        for web in LARGE + [BEYOND]:
            self.check_refused(web, [], [("add", 0, 1, 0, 0), ("add", 0, 1, 99, 99), ("add", 2, 1, 3, 4),
                                         ("add", 0, 1, 4, 100), ("add", None, 1, 2, 3)])
        # Such a road would be unsafe, too, but it is refused before that.
        model = Model(self, (2, ((0, 1, 5, 6),) + ((0, 1, 7, 8),) * 8))
        self.assertEqual([model.call("build", 0), model.call("add", 0, 1, 4, 6), model.call("add", 0, 1, 6, 9)],
                         [None, "Unsafe", None])
        self.assertEqual([model.call("add", 0, 1, 4, 6), model.call("add", 0, 1, 7, 9), model.call("add", 0, 1, 9, 7)],
                         ["InvalidRoad"] * 3)
        model.check()
        self.assertEqual(len(model.office.web()[1]), 10)
        model.undo()
        self.assertIsNone(model.call("add", 0, 1, 99, 99))
        model.check_way_back()

    def test_unsafe(self):
        self.check_refused(ROUGH, [("build", 1)], [("build", 0), ("build", 2), ("drop", 0), ("drop", 2),
                                                   ("correct", 2, 2, 6), ("correct", 1, 4, 4), ("correct", 1, 2, 9),
                                                   ("correct", 2, 0, 99), ("add", 1, 2, 2, 9), ("add", 0, 2, 2, 2)])
        self.check_refused(TWIN, [("build", 0), ("drop", 1)], [
            ("correct", 0, 5, 6), ("correct", 0, 0, 6), ("correct", 1, 4, 5), ("correct", 1, 0, 99),
            ("add", 0, 1, 4, 9), ("add", 0, 1, 0, 4)])
        self.check_refused(TWIN, [("drop", 1)], [("drop", 0)])
        self.check_refused(TWIN, [("build", 1)], [("build", 0)])
        self.check_refused(LINE, [("build", 2)], [("drop", 0), ("drop", 1), ("add", 2, 3, 5, 9)])

    def test_unsafe_lengths_are_those_behind_the_refused_event(self):
        web = (2, ((0, 1, 1, 2), (0, 1, 4, 4)))
        office = make(web, [("build", 0)])
        with self.assertRaises(errors.Unsafe) as caught:
            office.correct(0, 5, 9)
        self.assertTrue(5 <= caught.exception.lengths[0] <= 9)
        with self.assertRaises(errors.Unsafe) as caught:
            office.add(0, 1, 1, 1)
        self.assertEqual(caught.exception.lengths, (2, 4, 1))
        with self.assertRaises(errors.Unsafe) as caught:
            make(web, [("measure", 0, 2)]).drop(0)
        self.assertEqual(caught.exception.lengths, (2, 4))


class AcceptedTest(unittest.TestCase):
    def test_wider_bounds(self):
        model = Model(self, ROUGH)
        for event in [("correct", 0, 0, 99), ("correct", 1, 0, 3), ("build", 1), ("correct", 1, 0, 2),
                      ("correct", 2, 2, 99), ("correct", 0, 2, 99), ("measure", 0, 50), ("correct", 0, 2, 60),
                      ("correct", 1, 2, 2), ("measure", 1, 2), ("correct", 1, 0, 1), ("correct", 1, 1, 1)]:
            self.assertIsNone(model.call(*event), event)
            model.check()
        self.assertEqual(model.office.web(), (3, ((0, 1, 2, 60), (1, 2, 1, 1), (0, 2, 2, 99))))
        model.check_way_back()

    def test_measured_once_more(self):
        model = Model(self, ROUGH)
        for event in [("measure", 0, 3), ("measure", 0, 3), ("build", 0), ("measure", 0, 3), ("measure", 2, 6),
                      ("measure", 2, 6), ("drop", 2), ("measure", 2, 6)]:
            self.assertIsNone(model.call(*event), event)
            model.check()
        self.assertEqual(len(log(model.office)), 8)
        model.check_way_back()

    def test_measured_and_decided_roads(self):
        model = Model(self, CLEAR)
        for event in [("measure", 0, 1), ("build", 0), ("measure", 2, 6), ("drop", 2), ("measure", 1, 2),
                      ("build", 1), ("measure", 0, 1), ("correct", 0, 0, 3), ("correct", 2, 3, 3)]:
            self.assertIsNone(model.call(*event), event)
            model.check()
        self.assertTrue(model.office.is_done())
        model.check_way_back()

    def test_added_to_nine_roads(self):
        model = Model(self, (3, ((0, 1, 3, 4), (1, 2, 2, 2), (0, 2, 3, 5))))
        for count in range(7):
            self.assertIsNone(model.call("add", count % 2, 2, count, count + 1))
            model.check()
        self.assertEqual(model.call("add", 0, 1, 3, 4), "InvalidRoad")
        self.assertEqual(len(model.office.web()[1]), 10)
        model.check_way_back()

    def test_bounds_at_the_ends(self):
        model = Model(self, ROUGH)
        for event in [("correct", 0, 0, 0), ("correct", 0, 99, 99), ("correct", 0, 0, 99), ("add", 0, 1, 0, 0),
                      ("add", 0, 2, 99, 99), ("add", 1, 2, 0, 99), ("measure", 0, 99), ("measure", 5, 0)]:
            self.assertIsNone(model.call(*event), event)
            model.check()

    def test_beyond(self):
        model = Model(self, BEYOND)
        for event in [("measure", 6, 120), ("drop", 6), ("build", 5), ("correct", 1, 0, 1), ("build", 1)]:
            self.assertIsNone(model.call(*event), event)
        self.assertEqual(model.call("correct", 6, 99, 100), "InvalidBounds")
        self.assertEqual(model.call("add", 0, 1, 99, 99), "InvalidRoad")
        self.assertEqual(model.office.plan(), ((1, 5), (6,)))

    def test_reason_that_still_is_one_is_kept(self):
        model = Model(self, (2, ((0, 1, 3, 3), (0, 1, 5, 6), (0, 1, 4, 4))))
        self.assertIsNone(model.call("drop", 1))
        (one,), = model.office.paper().values()
        other = 2 - one
        for event in [("correct", other, 0, 0), ("correct", one, 5, 5), ("correct", 1, 5, 9), ("build", other)]:
            self.assertIsNone(model.call(*event))
            self.assertEqual(model.office.paper()[1], (one,))
            self.assertNotIn(1, log(model.office)[-1][1])
        # Now there is one reason left.
        self.assertIsNone(model.call("correct", one, 5, 6))
        self.assertEqual(log(model.office)[-1][1], {1: (other,)})
        model.check_way_back()

    def test_side_that_still_is_a_reason_is_kept(self):
        model = Model(self, (3, ((0, 1, 1, 1), (1, 2, 1, 1), (0, 2, 1, 1))))
        self.assertIsNone(model.call("build", 1))
        side = model.office.paper()[1]
        self.assertIn(side, [(1,), (0, 1)])
        crossed, other = (2, 0) if side == (0, 1) else (0, 2)
        for event in [("correct", other, 50, 50), ("correct", other, 0, 9), ("measure", other, 0)]:
            self.assertIsNone(model.call(*event))
            self.assertEqual([model.office.paper(), log(model.office)[-1][1]], [{1: side}, {}])
        self.assertIsNone(model.call("correct", other, 1, 1))
        self.assertIsNone(model.call("correct", crossed, 0, 9))
        self.assertEqual(log(model.office)[-1][1], {1: (1,) if side == (0, 1) else (0, 1)})
        model.check_way_back()

    def test_reason_that_is_spoilt_by_a_step_is_replaced(self):
        model = Model(self, TWICE_TWO)
        self.assertIsNone(model.call("drop", 0))
        (one,), = model.office.paper().values()
        self.assertIsNone(model.call("drop", one))
        self.assertEqual(log(model.office)[-1][1], {0: (3 - one,), one: (3 - one,)})
        self.assertEqual(model.call("drop", 3 - one), "Unsafe")
        self.assertIsNone(model.call("build", 3 - one))
        self.assertEqual(log(model.office)[-1][1], {3 - one: (0,)})
        model.check_way_back()

    def test_reason_that_is_spoilt_by_a_road_more_is_replaced(self):
        # The road that is added crosses one of the two sides.
        model = Model(self, (3, ((0, 1, 2, 2), (1, 2, 2, 2), (0, 2, 9, 9))))
        self.assertIsNone(model.call("build", 1))
        side = model.office.paper()[1]
        self.assertIsNone(model.call("add", 0, 2 if side == (0, 1) else 1, 1, 9))
        self.assertEqual(log(model.office)[-1][1], {1: (1,) if side == (0, 1) else (0, 1)})
        model.check_way_back()

    def test_a_step_replaces_reasons_of_other_roads(self):
        seen = set()
        for web in [(3, ((0, 1, 1, 1), (1, 2, 1, 1), (0, 2, 1, 1), (0, 1, 1, 1), (1, 2, 1, 1), (0, 2, 1, 1))),
                    (4, tuple((a, b, 2, 2) for a in range(4) for b in range(a + 1, 4)))]:
            for seed in range(20):
                draw, model = random.Random(seed), Model(self, web)
                while not model.office.is_done():
                    word, road = draw.choice(model.office.options())
                    self.assertIsNone(model.call(word, road))
                    model.check()
                    seen.add((word, len(log(model.office)[-1][1]) > 1))
                self.assertEqual(len(model.office.plan()[0]), web[0] - 1)
        self.assertEqual(len(seen), 4, seen)

    def test_histories(self):
        seen = set()
        for at, web in enumerate(TRIED):
            draw, model = random.Random(at), Model(self, web)
            for _ in range(25):
                web_now, plan = model.states[-1][:2]
                choice = draw.random()
                if choice < 0.1:
                    model.undo()
                elif choice < 0.2:
                    model.redo()
                else:
                    event = drawn_event(web_now, plan, draw)
                    seen.add((event[0], model.call(*event)))
                model.check()
        self.assertEqual(len(seen), 16, seen)

    def test_plans_hold_for_all_lengths(self):
        for at, web in enumerate(drawn_webs(40)):
            draw, model = random.Random(at), Model(self, web)
            for _ in range(8):
                model.call(*drawn_event(*model.states[-1][:2], draw))
            web, plan = model.office.web(), model.office.plan()
            for lengths in all_lengths(web)[::max(1, len(all_lengths(web)) // 60)]:
                self.assertTrue(plan_serves(web, plan, lengths))

    def test_all_decided(self):
        for at, web in enumerate(TRIED):
            draw, model = random.Random(at), Model(self, web)
            while not model.office.is_done():
                options = model.office.options()
                if options:
                    self.assertIsNone(model.call(*draw.choice(options)))
                else:
                    road = draw.choice([road for road, row in enumerate(model.office.web()[1]) if row[2] < row[3]])
                    self.assertIsNone(model.call("measure", road, draw.randint(*model.office.web()[1][road][2:])))
            web, plan = model.office.web(), model.office.plan()
            self.assertIn(plan[0], all_trees(web))
            self.assertTrue(all(plan[0] in least(web, lengths) for lengths in all_lengths(web)))
            self.assertEqual([model.office.options(), model.office.pending()], [[], {}])

    def test_large_webs(self):
        for at, web in enumerate(LARGE):
            draw, model = random.Random(at), Model(self, web)
            for _ in range(30):
                model.call(*drawn_event(*model.states[-1][:2], draw))
            model.check()
            model.check_way_back()


class UndoTest(unittest.TestCase):
    def test_nothing_to_take(self):
        office = Office(ROUGH)
        for _ in range(3):
            self.assertEqual([office.undo(), office.redo()], [None, None])
        office.build(1)
        self.assertEqual([office.redo(), office.undo(), office.undo(), office.redo(), office.redo()],
                         [None, ("build", 1), None, ("build", 1), None])

    def test_every_kind_of_event(self):
        events = [("measure", 0, 3), ("build", 0), ("correct", 2, 5, 9), ("add", 0, 1, 4, 7), ("drop", 2),
                  ("build", 1), ("drop", 3)]
        office, states = Office(ROUGH), []
        for word, *given in events:
            states.append(told(office))
            getattr(office, word)(*given)
        last = told(office)
        for event in events[::-1]:
            self.assertEqual(exact(office.undo()), exact(event))
            self.assertEqual(told(office), states[events.index(event)])
        self.assertIsNone(office.undo())
        for at, event in enumerate(events):
            self.assertEqual(told(office), states[at])
            self.assertEqual(exact(office.redo()), exact(event))
        self.assertEqual([told(office), office.redo()], [last, None])

    def test_accepted_events_empty_the_stack(self):
        for event in [("measure", 0, 3), ("measure", 1, 2), ("build", 0), ("drop", 2), ("correct", 2, 6, 6),
                      ("correct", 0, 3, 3), ("add", 0, 1, 9, 9)]:
            office = make(ROUGH, [("build", 1), ("measure", 0, 3), ("correct", 1, 2, 2), ("undo",)])
            self.assertEqual(office.redo(), ("correct", 1, 2, 2))
            office.undo()
            getattr(office, event[0])(*event[1:])
            self.assertIsNone(office.redo())
            self.assertEqual([office.undo(), office.redo(), office.redo()], [event, event, None])

    def test_redo_keeps_the_rest_of_the_stack(self):
        events = [("build", 1), ("measure", 0, 3), ("build", 0), ("drop", 2)]
        office = make(ROUGH, events + [("undo",)] * 4)
        self.assertEqual([office.redo(), office.redo(), office.undo(), office.redo(), office.redo()],
                         [events[0], events[1], events[1], events[1], events[2]])
        self.assertEqual([office.redo(), office.redo()], [events[3], None])

    def test_refused_events_do_not_empty_the_stack(self):
        office = make(ROUGH, [("build", 1), ("measure", 0, 3), ("undo",)])
        for kind, word, given in [(errors.InvalidRoad, "build", (1,)), (errors.Unsafe, "build", (0,)),
                                  (errors.Unsafe, "drop", (0,)), (errors.InvalidRoad, "drop", (7,)),
                                  (errors.InvalidLength, "measure", (0, 5)), (errors.InvalidRoad, "measure", (3, 5)),
                                  (errors.InvalidBounds, "correct", (0, 5, 4)), (errors.Unsafe, "correct", (2, 0, 0)),
                                  (errors.InvalidRoad, "add", (0, 0, 1, 1)), (errors.Unsafe, "add", (1, 2, 0, 0))]:
            with self.assertRaises(kind):
                getattr(office, word)(*given)
        self.assertEqual([office.redo(), office.redo()], [("measure", 0, 3), None])

    def test_long_history(self):
        for web in [ROUGH, SMALL[10], (4, SMALL[13][1][:4])]:
            draw, model = random.Random(web[0]), Model(self, web)
            while len(model.events) < 250:
                event = drawn_event(*model.states[-1][:2], draw)
                if event[0] != "add" or len(model.states[-1][0][1]) < 7 or draw.random() < 0.02:
                    model.call(*event)
                for _ in range(draw.choice([0] * 8 + [1, 3])):
                    model.undo()
                    model.redo() if draw.random() < 0.7 else None
            model.check()
            for _ in range(200):
                model.undo()
            for _ in range(draw.randint(50, 150)):
                model.redo()
            model.check()
            model.check_way_back()


class EqualTest(unittest.TestCase):
    def test_same_events(self):
        for events in [[], BUSY, BUSY[:5]]:
            check_equal(self, make(ROUGH, events), make(ROUGH, events), True)
        office = make(ROUGH, BUSY)
        check_equal(self, office, office, True)
        check_equal(self, make(ROUGH, []), make((3, ROUGH[1] + ()), []), True)

    def test_other_webs(self):
        # Equal logs, but webs that differ, also where they are equal behind the log.
        for one, other, events in [(ROUGH, CLEAR, []), (ALONE, TWIN, []),
                                   ((2, ((0, 1, 1, 3),)), (2, ((0, 1, 1, 4),)), [("measure", 0, 2)]),
                                   ((2, ((0, 1, 1, 3),)), (2, ((0, 1, 2, 3),)), [("correct", 0, 0, 9)]),
                                   (LINE, (4, LINE[1][:2] + ((1, 3, 3, 6),)), [("measure", 0, 2)])]:
            self.assertEqual(log(make(one, events)), log(make(other, events)))
            check_equal(self, make(one, events), make(other, events), False)

    def test_other_logs(self):
        events = [("measure", 0, 3), ("measure", 2, 4)]
        check_equal(self, make(ROUGH, events), make(ROUGH, events[::-1]), False)
        check_equal(self, make(ROUGH, events), make(ROUGH, events[:1]), False)
        check_equal(self, make(ROUGH, []), make(ROUGH, events[:1]), False)
        check_equal(self, make(ROUGH, [("measure", 0, 3)]), make(ROUGH, [("correct", 0, 3, 3)]), False)
        check_equal(self, make(ROUGH, [("measure", 0, 3)]), make(ROUGH, [("measure", 0, 3)] * 2), False)
        check_equal(self, make(ROUGH, [("measure", 0, 3)]), make(ROUGH, [("measure", 0, 2)]), False)
        check_equal(self, make(TWIN, [("build", 0), ("drop", 1)]), make(TWIN, [("drop", 1), ("build", 0)]), False)
        # The log counts, not what it leads to.
        check_equal(self, make(ROUGH, [("correct", 0, 1, 4)]), make(ROUGH, []), False)

    def test_taken_back(self):
        check_equal(self, make(ROUGH, [("build", 1), ("undo",)]), make(ROUGH, []), True)
        check_equal(self, make(ROUGH, [("build", 1), ("undo",), ("redo",)]), make(ROUGH, [("build", 1)]), True)
        check_equal(self, make(ROUGH, [("build", 1), ("measure", 0, 3), ("undo",)]), make(ROUGH, [("build", 1)]), True)
        check_equal(self, make(ROUGH, [("build", 1), ("undo",)]), make(ROUGH, [("build", 1)]), False)

    def test_values_that_are_no_office(self):
        office = make(ROUGH, [("build", 1)])
        for value in odd_values() + [ROUGH, log(office), (ROUGH, log(office)), office.plan(), office.paper(), Office,
                                     errors.InvalidRoad(1), object()]:
            check_equal(self, office, value, False)

    def test_choices_depend_on_the_log_alone(self):
        for at, web in enumerate(TRIED):
            draw, model = random.Random(at), Model(self, web)
            for _ in range(20):
                choice = draw.random()
                if choice < 0.4:
                    model.call(*drawn_event(*model.states[-1][:2], draw))
                elif choice < 0.7:
                    model.undo()
                elif choice < 0.9:
                    model.redo()
                else:
                    model.check()
            other = make(web, model.events)
            check_equal(self, model.office, other, True)
            self.assertEqual(told(model.office), told(other))
            self.assertEqual(exact(log(model.office)), exact(log(other)))


class CopiesTest(unittest.TestCase):
    def test_what_was_told_may_be_changed(self):
        office = make(ROUGH, BUSY[:4])
        before = told(office)
        entries = log(office)
        for value in [office.paper(), office.options(), office.pending(), entries]:
            value.clear()
        for event, changes in log(office):
            changes[9] = (9,)
            changes.pop(1, None)
        log(office).append("spoilt")
        office.paper()[1] = (9,)
        self.assertEqual(told(office), before)
        self.assertEqual(office.undo(), ("correct", 2, 4, 9))
        log(office)[-1][1][0] = (9,)
        office.redo()
        office.undo()
        office.undo()
        self.assertEqual(office.paper(), {1: (0, 1)})
        self.assertEqual(office, make(ROUGH, BUSY[:2]))

    def test_what_was_told_does_not_change(self):
        model = Model(self, (3, ((0, 1, 1, 1), (1, 2, 1, 1), (0, 2, 1, 1))))
        kept = []
        for event in [("build", 1), ("drop", 0), ("add", 0, 1, 9, 9), ("correct", 1, 0, 0), ("drop", 3), ("build", 2)]:
            self.assertIsNone(model.call(*event))
            office = model.office
            values = [office.web(), office.plan(), office.paper(), office.options(), office.pending(), log(office)]
            kept.append((values, copy.deepcopy(values)))
        model.check_way_back()
        for values, before in kept:
            self.assertEqual(exact(values), exact(before))

    def test_two_offices_share_nothing(self):
        one, other = make(ROUGH, [("build", 1)]), make(ROUGH, [("build", 1)])
        before = told(other)
        one.measure(0, 3)
        one.build(0)
        one.undo()
        self.assertEqual([told(other), other.redo(), other.undo()], [before, None, ("build", 1)])

    def test_errors_keep_copies(self):
        inner = [1]
        row = (0, [inner], {2: inner}, 3)
        with self.assertRaises(errors.InvalidRoad) as caught:
            Office(ROUGH).add(*row)
        inner.append(2)
        self.assertEqual(caught.exception.road, (0, [[1]], {2: [1]}, 3))


if __name__ == "__main__":
    unittest.main()
