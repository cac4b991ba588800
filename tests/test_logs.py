import copy
import itertools
import random
import unittest

from office_model import NOTHING, behind, drawn_event, event_ok, has_paper, log_ok, make, reasons, still_reasons
from roughroads.logs import is_log, log, replayed
from roughroads.office import Office
from samples import ALONE, BEYOND, CLEAR, LARGE, LINE, ROUGH, SMALL, TWIN, changed, drawn_webs, exact, odd_values

TRIED = SMALL + drawn_webs(30)
EQUALS = (2, ((0, 1, 2, 2), (0, 1, 2, 2), (0, 1, 2, 3)))


def drawn_office(web, draw, many):
    """Return an office behind some accepted events."""
    office = Office(web)
    while len(log(office)) < many:
        event = drawn_event(office.web(), office.plan(), draw)
        if event_ok(office.web(), office.plan(), event) and has_paper(*behind(office.web(), office.plan(), event)):
            getattr(office, event[0])(*event[1:])
    return office


def chosen_log(web, events, draw):
    """Return a log with these events and any reasons."""
    plan, paper, found = NOTHING, {}, []
    for event in events:
        web, plan = behind(web, plan, event)
        still = still_reasons(web, plan, paper)
        changes = {road: draw.choice(reasons(web, plan, road)) for road in plan[0] + plan[1] if road not in still}
        paper = {**paper, **changes}
        found.append((event, changes))
    return found, (web, plan, paper)


class LogTest(unittest.TestCase):
    def check(self, web, value):
        right = log_ok(web, value)
        self.assertIs(is_log(web, value), right, (web, value))
        return right

    def test_examples(self):
        office = Office(ROUGH)
        office.build(1)
        office.measure(0, 3)
        office.build(0)
        self.assertEqual(exact(log(office)), exact([(("build", 1), {1: (0, 1)}), (("measure", 0, 3), {}),
                                                    (("build", 0), {0: (0,)})]))
        self.assertEqual([is_log(ROUGH, log(office)), is_log(ROUGH, [(("build", 0), {0: (0,)})]),
                          replayed(ROUGH, log(office))[1]], [True, False, ((0, 1), ())])

    def test_logs_of_offices_and_their_beginnings(self):
        for at, web in enumerate(TRIED + LARGE):
            office = drawn_office(web, random.Random(at), 9) if web != ALONE else Office(web)
            states = [replayed(web, log(office)[:many]) for many in range(len(log(office)) + 1)]
            for many in range(len(log(office)), -1, -1):
                entries = log(office)
                self.assertTrue(log_ok(web, entries))
                self.assertIs(is_log(web, entries), True)
                right = (office.web(), office.plan(), office.paper())
                self.assertEqual([exact(replayed(web, entries)), exact(states[many])], [exact(right)] * 2)
                office.undo()

    def test_empty(self):
        for web in TRIED + LARGE + [BEYOND]:
            self.assertIs(is_log(web, []), True)
            self.assertEqual(exact(replayed(web, [])), exact((web, ((), ()), {})))
            self.assertEqual(log(Office(web)), [])
            self.assertIs(is_log(web, ()), False)
            self.assertIs(is_log(web, {}), False)

    def test_long_log(self):
        office = drawn_office((3, ROUGH[1]), random.Random(3), 150)
        self.assertIs(is_log(ROUGH, log(office)), True)
        self.assertEqual(replayed(ROUGH, log(office)), (office.web(), office.plan(), office.paper()))
        entries = log(office)
        entries[75:75] = [(("build", 0), {})]
        self.assertIs(is_log(ROUGH, entries), False)

    def test_what_is_taken_back_is_not_in_it(self):
        office = make(ROUGH, [("build", 1), ("measure", 0, 3), ("undo",)])
        self.assertEqual(log(office), [(("build", 1), {1: (0, 1)})])
        office.redo()
        self.assertEqual(log(office)[1:], [(("measure", 0, 3), {})])
        office.undo()
        office.undo()
        self.assertEqual(log(office), [])

    def test_changed_at_any_place(self):
        seen = set()
        for at, web in enumerate(TRIED[::2]):
            if web == ALONE:
                continue
            entries = log(drawn_office(web, random.Random(at), 4))
            for value in changed(entries):
                seen.add(self.check(web, value))
        self.assertEqual(seen, {True, False})

    def test_entries_left_out_twice_or_exchanged(self):
        seen = set()
        for at, web in enumerate(TRIED):
            if web == ALONE:
                continue
            entries = log(drawn_office(web, random.Random(at + 50), 7))
            for one in range(len(entries)):
                seen.add(self.check(web, entries[:one] + entries[one + 1:]))
                seen.add(self.check(web, entries[:one] + [entries[one]] + entries[one:]))
                for other in range(one):
                    rows = list(entries)
                    rows[one], rows[other] = rows[other], rows[one]
                    seen.add(self.check(web, rows))
                    self.check(web, entries[:other] + entries[one:] + entries[other:one])
            self.check(web, entries[::-1])
        self.assertEqual(seen, {True, False})

    def test_logs_for_other_webs(self):
        for at, (one, other) in enumerate(itertools.permutations(TRIED[:12], 2)):
            if one != ALONE:
                self.check(other, log(drawn_office(one, random.Random(at), 3)))

    def test_reasons_that_the_package_would_not_choose(self):
        others = 0
        for at, web in enumerate(TRIED + LARGE):
            if web == ALONE:
                continue
            for seed in range(4):
                draw = random.Random(100 * at + seed)
                office = drawn_office(web, draw, 8)
                entries, state = chosen_log(web, [event for event, _ in log(office)], draw)
                others += entries != log(office)
                self.assertIs(is_log(web, entries), True, (web, entries))
                self.assertEqual(exact(replayed(web, entries)), exact(state))
                self.assertTrue(self.check(web, entries[:5]))
        self.assertGreater(others, 20)

    def test_events_that_are_not_possible(self):
        good = [(("build", 1), {1: (0, 1)}), (("measure", 0, 3), {})]
        self.assertIs(is_log(ROUGH, good), True)
        for event in [("build", 1), ("drop", 1), ("build", 3), ("build", -1), ("build", True), ("build", "0"),
                      ("build",), ("build", 0, 0), ("measure", 0, 2), ("measure", 0, 4), ("measure", 3, 3),
                      ("measure", 2, 2), ("measure", 2, 7), ("measure", 2), ("measure", 2, 4, 4), ("measure", True, 2),
                      ("measure", 0, None), ("measure",), ("correct", 1, 3, 2), ("correct", 1, -1, 2),
                      ("correct", 2, 3, 100), ("correct", 3, 1, 1), ("correct", -1, 1, 1), ("correct", 2, True, 3),
                      ("correct", 2, 3), ("correct", 2, 3, 3, 3), ("correct", 2, 9, 3), ("add", 0, 1, 2),
                      ("add", 1, 0, 9, 9), ("add", 0, 3, 9, 9), ("add", 0, 1, 9, 100), ("add", 0, 1, 9, 8),
                      ("add", 0, 1, 9, 9, 9), ("add", False, 1, 9, 9), ("add", 0, True, 9, 9), ("add", 0, 0, 9, 9),
                      ("add", (0, 1, 9, 9)), ("undo",), ("redo",), (), ("",), (None, 0), ("Measure", 2, 4),
                      ("building", 0), ["measure", 2, 4], ("measure", [2], 4), (["measure"], 2, 4), None, "build",
                      ("b", "u", "i", "l", "d"), {}, {0: "measure"}, 0, (b"build", 0), ("web",), ("plan",)]:
            for changes in [{}, {0: (0,)}, {1: (0, 1)}, {2: (0, 1)}]:
                self.assertFalse(log_ok(ROUGH, good + [(event, changes)]), (event, changes))
                self.assertIs(is_log(ROUGH, good + [(event, changes)]), False, (event, changes))
        for event in [("measure", 2, 3), ("measure", 2, 6), ("measure", 0, 3), ("correct", 2, 3, 99),
                      ("correct", 0, 3, 99), ("add", 0, 1, 9, 9), ("add", 0, 1, 99, 99)]:
            self.assertIs(is_log(ROUGH, good + [(event, {})]), True, event)

    def test_true_and_false_in_the_place_of_numbers(self):
        for entries in [[(("build", True), {1: (0, 1)})], [(("build", 1), {True: (0, 1)})],
                        [(("build", 1), {1: (False, 1)})], [(("build", 1), {1: (0, True)})],
                        [(("measure", False, 3), {})], [(("measure", 0, True), {})],
                        [(("correct", 0, True, 4), {})], [(("correct", 0, 1, True), {})],
                        [(("correct", False, 1, 4), {})], [(("correct", 0, False, 4), {})],
                        [(("add", False, 1, 9, 9), {})], [(("add", 0, True, 9, 9), {})],
                        [(("add", 0, 1, True, 9), {})], [(("add", 0, 1, 0, True), {})]]:
            self.assertIs(is_log(ROUGH, entries), False, entries)

    def test_bools_as_keys_of_changes(self):
        # The older reason of road 1 is spoilt, so 1 must be a key, but True must not.
        good = [(("drop", 1), {1: (0,)}), (("drop", 0), {0: (2,), 1: (2,)})]
        web = (2, ((0, 1, 2, 2),) * 3)
        self.assertIs(is_log(web, good), True)
        for changes in [{0: (2,), True: (2,)}, {False: (2,), 1: (2,)}, {False: (2,), True: (2,)}]:
            self.assertIs(is_log(web, good[:1] + [(("drop", 0), changes)]), False)
        self.assertIs(is_log(web, [(("drop", 1), {True: (0,)})]), False)
        self.assertIs(is_log(web, [(("drop", 0), {False: (1,)})]), False)

    def test_reasons_too_many(self):
        good = [(("drop", 2), {2: (0, 1)}), (("build", 0), {0: (0,)})]
        self.assertIs(is_log(CLEAR, good), True)
        # The older reason is still one, so that it is not replaced, by the same one or by another.
        for changes in [{0: (0,), 2: (0, 1)}, {0: (0,), 1: (0, 1)}, {0: (0,), 3: (0,)}, {0: (0,), -1: (0,)},
                        {0: (0,), None: (0,)}, {0: (0,), "1": (0, 1)}, {2: (0, 1)}, {}, {0: (0, 2), 2: (0, 1)}]:
            self.assertIs(is_log(CLEAR, good[:1] + [(("build", 0), changes)]), False, changes)
        for changes in [{2: (0, 1)}, {2: (0,)}, {0: (0,)}, {1: (0, 1)}]:
            self.assertIs(is_log(CLEAR, good[:1] + [(("measure", 0, 1), changes)]), False)
            self.assertIs(is_log(CLEAR, good[:1] + [(("correct", 0, 0, 0), changes)]), False)
        # Another reason that would do in the place of one that still is one.
        self.assertIs(is_log(EQUALS, [(("drop", 2), {2: (0,)})]), True)
        self.assertIs(is_log(EQUALS, [(("drop", 2), {2: (0,)}), (("drop", 1), {1: (0,)})]), True)
        self.assertIs(is_log(EQUALS, [(("drop", 2), {2: (0,)}), (("build", 1), {1: (0,), 2: (1,)})]), False)

    def test_reasons_too_few(self):
        self.assertIs(is_log(ROUGH, [(("build", 1), {})]), False)
        self.assertIs(is_log(CLEAR, [(("drop", 2), {})]), False)
        good = [(("drop", 2), {2: (1,)}), (("drop", 1), {1: (0,), 2: (0,)})]
        self.assertIs(is_log(EQUALS, good), True)
        for changes in [{1: (0,)}, {2: (0,)}, {}, {1: (0,), 2: (1,)}, {1: (2,), 2: (0,)}, {0: (1,), 2: (0,)}]:
            self.assertIs(is_log(EQUALS, good[:1] + [(("drop", 1), changes)]), False)

    def test_reasons_of_another_road_or_kind(self):
        for event, changes in [(("build", 1), {0: (0, 1)}), (("build", 1), {2: (0, 1)}), (("build", 1), {1: (0,)}),
                               (("build", 1), {1: (2,)}), (("build", 1), {1: (1, 0)}), (("build", 1), {1: (0, 2)}),
                               (("build", 1), {1: [0, 1]}), (("build", 1), {1: (0, 1, 1)}), (("build", 1), {1: (1,)}),
                               (("build", 1), {1: ()}), (("build", 1), {1: None}), (("build", 1), {1: {}}),
                               (("build", 1), {"1": (0, 1)}), (("build", 1), {(1,): (0, 1)}),
                               (("drop", 2), {2: (0, 1)}), (("drop", 1), {1: (0, 1)}),
                               (("build", 1), [(1, (0, 1))]), (("build", 1), ((1, (0, 1)),)), (("build", 1), None),
                               (("build", 1), (0, 1)), (("build", 1), [])]:
            self.assertIs(is_log(ROUGH, [(event, changes)]), False, (event, changes))

    def test_keys_put_in_in_another_order(self):
        for order in itertools.permutations([1, 2]):
            changes = {road: (0,) for road in order}
            self.assertIs(is_log(EQUALS, [(("drop", 2), {2: (1,)}), (("drop", 1), changes)]), True)
            state = replayed(EQUALS, [(("drop", 2), {2: (1,)}), (("drop", 1), changes)])
            self.assertEqual(state, (EQUALS, ((), (1, 2)), {1: (0,), 2: (0,)}))

    def test_web_with_ten_roads(self):
        rows = ((0, 1, 5, 5),) * 9
        entry = (("add", 0, 1, 6, 6), {})
        self.assertIs(is_log((2, rows), [entry]), True)
        self.assertIs(is_log((2, rows), [entry, (("drop", 9), {9: (3,)})]), True)
        self.assertIs(is_log((2, rows), [(("drop", 9), {9: (3,)}), entry]), False)
        self.assertIs(is_log((2, rows), [entry, entry]), False)
        self.assertIs(is_log((2, rows + rows[:1]), [entry]), False)
        self.assertIs(is_log((2, rows + rows[:2]), [entry]), False)

    def test_any_value(self):
        good = [(("build", 1), {1: (0, 1)}), (("measure", 0, 3), {})]
        values = odd_values() + [good[0], (good[0],), tuple(good), [good], (good, {}), [list(good[0])], [good[0][0]],
                                 {0: good[0]}, [good[0] + ({},)], [good[0][:1]], [({1: (0, 1)}, ("build", 1))],
                                 [((), {})], [()], [((), ())], [(None, None)], [[]], [{}], [""], [0], ["ab"],
                                 [(("build", 1),)], [("build", 1)]]
        for value in values:
            for web in (ROUGH, ALONE, TWIN):
                self.assertIs(is_log(web, value), exact(value) == "[]", value)
            self.assertIs(is_log(ROUGH, good + [value]), False)
            self.assertIs(is_log(ROUGH, [good[0], (value, {})]), False)
            self.assertIs(is_log(ROUGH, [good[0], (("measure", 0, 3), value)]), exact(value) == "{}")
            self.assertIs(is_log(ROUGH, [(("build", 1), {1: value})]), False)
            if exact(value) not in ("0", "1"):
                self.assertIs(is_log(ROUGH, [(("measure", value, 3), {})]), False)
            if exact(value) != "1":
                self.assertIs(is_log(ROUGH, [(("build", value), {1: (0, 1)})]), False)
                self.assertIs(is_log(ROUGH, [(("measure", 0, value), {})]), False)
            self.assertIs(is_log(ROUGH, [((value, 1), {1: (0, 1)})]), False)
            self.assertIs(is_log(ROUGH, [((value, 0, 1, 9, 9), {})]), False)

    def test_arguments_do_not_change_and_results_are_new(self):
        for web, events in [(ROUGH, [("build", 1), ("measure", 0, 3), ("build", 0)]), (LINE, [("build", 2)]),
                            (EQUALS, [("drop", 2), ("drop", 1), ("build", 0)])]:
            entries = log(make(web, events))
            before = copy.deepcopy(entries)
            is_log(web, entries)
            state = replayed(web, entries)
            state[2].clear()
            state[2][5] = (5,)
            self.assertEqual(exact(entries), exact(before))
            self.assertEqual(replayed(web, entries), replayed(web, before))
            state = replayed(web, entries)
            entries[0][1].clear()
            entries.clear()
            self.assertEqual(exact(state), exact(replayed(web, before)))


if __name__ == "__main__":
    unittest.main()
