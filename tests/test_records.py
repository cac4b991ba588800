import copy
import itertools
import random
import unittest

from measurer_model import Model, drawn_call, drawn_prices, entry_ok, known, ledger_ok, least_price, make, roads_of
from measurer_model import told_by, with_bounds, wrong_entry
from oracles import all_witnesses, is_fixed, tight_ok
from roughroads.measurers import Measurer
from roughroads.records import first_wrong, is_ledger, is_record, resumed
from roughroads.witnesses import find_witness
from samples import ALONE, BEYOND, CLEAR, LARGE, LINE, PAIR, ROUGH, SMALL, TIED, TWIN, WIDE
from samples import all_lengths, changed, drawn_webs, exact, odd_values

TRIED = SMALL + [TIED, WIDE] + drawn_webs(40)
PRICES = (2, 1, 1)
# Four houses in a ring with two ways across, which has many tight witnesses.
RICH = (4, ((0, 1, 0, 3), (1, 2, 0, 3), (2, 3, 1, 3), (0, 3, 1, 4), (0, 2, 1, 2), (1, 3, 0, 2)))


def drawn_measurer(web, draw, many):
    """Return a measurer behind some calls, with its prices."""
    prices = drawn_prices(web, draw)
    measurer = Measurer(web, prices)
    for _ in range(many):
        call = drawn_call(measurer.web(), measurer.told(), draw)
        if call is not None:
            getattr(measurer, call[0])(*call[1:])
    return measurer, prices


def drawn_record(web, prices, draw, many):
    """Return a record with any rounds, also several behind one call, and none where one is due."""
    entries = []
    for _ in range(many):
        now, told, rests = known(web, prices, entries)
        rounds = [("round", witness, min(rests[road] for road in roads_of(witness))) for witness in all_witnesses(now)
                  if tight_ok(now, witness) and 0 not in [rests[road] for road in roads_of(witness)]]
        call = drawn_call(now, told, draw)
        if rounds and draw.random() < 0.5:
            entries.append(draw.choice(rounds))
        elif call is not None:
            entries.append(call)
    return entries


class FirstWrongTest(unittest.TestCase):
    def check(self, web, prices, value):
        right = wrong_entry(web, prices, value)
        self.assertEqual(exact(first_wrong(web, prices, value)), exact(right), (web, prices, value))
        self.assertIs(is_record(web, prices, value), right is None, (web, prices, value))
        return right

    def test_examples(self):
        measurer = Measurer(ROUGH, (2, 1, 1))
        self.assertEqual([measurer.tell(2, 3), is_record(ROUGH, (2, 1, 1), measurer.record()), len(measurer.record()),
                          first_wrong(ROUGH, (2, 1, 1), measurer.record() + [("tell", 2, 3)])], [None, True, 3, 3])
        self.assertEqual([resumed(ROUGH, (2, 1, 1), measurer.record()) == measurer,
                          is_ledger(ROUGH, measurer.web(), (2, 1, 1), measurer.ledger()[::-1])], [True, True])
        self.assertEqual([is_ledger(ROUGH, ROUGH, (2, 1, 1), [(2, (0, 1), (0,), (0,), ((1, 4), (3, 6)), amount)])
                          for amount in (1, 2)], [True, False])

    def test_records_of_measurers_and_their_beginnings(self):
        for at, web in enumerate(TRIED + LARGE):
            measurer, prices = drawn_measurer(web, random.Random(at), 8)
            record = measurer.record()
            for many in range(len(record) + 1):
                self.assertIsNone(self.check(web, prices, record[:many]))
            self.assertIsNone(self.check(web, prices, []))

    def test_other_witnesses_and_rounds_that_are_missing(self):
        others = 0
        for at, web in enumerate(TRIED + [RICH] * 10 + LARGE[:2]):
            draw = random.Random(at)
            prices = drawn_prices(web, draw)
            record = drawn_record(web, prices, draw, 12)
            self.assertIsNone(self.check(web, prices, record))
            measurer = make(web, prices, [entry for entry in record if entry[0] != "round"])
            others += measurer.record() != record
            rest = [entry for entry in record if entry[0] != "round" or draw.random() < 0.5]
            self.check(web, prices, rest)
            self.assertIsNone(self.check(web, prices, [entry for entry in record if entry[0] != "round"]))
        self.assertGreater(others, 20)

    def test_changed_at_any_place(self):
        seen = set()
        for at, web in enumerate(TRIED[::2] + [RICH]):
            draw = random.Random(at)
            measurer, prices = drawn_measurer(web, draw, 2)
            for record in [measurer.record(), drawn_record(web, prices, draw, 3)]:
                for value in changed(record):
                    if type(value) is list:
                        seen.add(self.check(web, prices, value))
                    else:
                        self.assertIs(is_record(web, prices, value), False)
        self.assertTrue({None, 0, 1, 2, 3} <= seen, seen)

    def test_entries_left_out_twice_or_exchanged(self):
        seen = set()
        for at, web in enumerate(TRIED + [RICH] * 3):
            draw = random.Random(at + 50)
            prices = drawn_prices(web, draw)
            for record in [drawn_measurer(web, draw, 5)[0].record(), drawn_record(web, prices, draw, 8)]:
                for one in range(len(record)):
                    seen.add(self.check(web, prices, record[:one] + record[one + 1:]))
                    seen.add(self.check(web, prices, record[:one] + record[one:one + 1] + record[one:]))
                    for other in range(one):
                        rows = list(record)
                        rows[one], rows[other] = rows[other], rows[one]
                        seen.add(self.check(web, prices, rows))
        self.assertGreater(len(seen), 6)

    def test_other_prices_and_webs(self):
        for at, (one, other) in enumerate(itertools.permutations(TRIED[:12], 2)):
            draw = random.Random(at)
            record = drawn_measurer(one, draw, 3)[0].record()
            self.check(other, drawn_prices(other, draw), record)
            self.check(one, drawn_prices(one, draw), record)

    def test_amounts(self):
        # The least rest, not the price, nor less than it, nor the other rest.
        web, prices = (2, ((0, 1, 0, 9), (0, 1, 1, 10), (0, 1, 2, 11))), (2, 5, 4)
        one, other = (1, (0,), (0,), (0,)), (2, (1,), (0,), (1,))
        self.assertEqual([tight_ok(web, one), tight_ok(web, other)], [True, False])
        for amount, right in [(2, None), (1, 0), (3, 0), (5, 0), (0, 0), (-2, 0), (True, 0), ("2", 0), (None, 0),
                              ((2,), 0), (10 ** 59, 0)]:
            self.assertEqual(self.check(web, prices, [("round", one, amount)]), right)
        record = [("round", one, 2), ("tell", 0, 9)]
        for amount, right in [(3, None), (5, 2), (4, 2), (2, 2), (1, 2), (0, 2)]:
            self.assertEqual(self.check(web, prices, record + [("round", other, amount)]), right)

    def test_amount_that_is_true(self):
        self.assertEqual(self.check(ROUGH, PRICES, [("round", PAIR, 1)]), None)
        self.assertEqual(self.check(ROUGH, PRICES, [("round", PAIR, True)]), 0)

    def test_rounds_with_an_asked_road(self):
        record = [("round", PAIR, 1)]
        for amount in (0, 1, 2, False):
            self.assertEqual(self.check(ROUGH, PRICES, record + [("round", PAIR, amount)]), 1)
            self.assertEqual(self.check(ROUGH, PRICES, record + [("tell", 1, 2), ("round", PAIR, amount)]), 2)
        record += [("tell", 2, 3)]
        for prices, amount, right in [(PRICES, 1, None), (PRICES, 2, 2), ((1, 1, 1), 0, 2), ((1, 1, 1), 1, 2)]:
            self.assertEqual(self.check(ROUGH, prices, record + [("round", (0, (2, 1), (0,), ()), amount)]), right)

    def test_witnesses_that_are_not_tight_or_of_another_web(self):
        web = (3, ((0, 1, 0, 4), (1, 2, 4, 6), (0, 2, 3, 9)))
        self.assertEqual(self.check(web, PRICES, [("round", (2, (0, 1), (0,), (0,)), 1)]), 0)
        self.assertEqual(self.check(web, PRICES, [("narrow", 1, 4, 6), ("round", (2, (0, 1), (0,), (0,)), 1)]), 1)
        self.assertEqual(self.check(web, PRICES, [("tell", 1, 5), ("round", (2, (0, 1), (0,), (0,)), 1)]), 1)
        # Right in the first web, not in the web as it is known there, and the other way round.
        self.assertEqual(self.check(ROUGH, PRICES, [("tell", 2, 3), ("round", PAIR, 1)]), 1)
        self.assertEqual(self.check(ROUGH, PRICES, [("round", (0, (2, 1), (0,), ()), 2), ("tell", 2, 3)]), 0)
        for witness in [(1, (0,), (0, 1), ()), (2, (0, 1), (0, 1), (1,)), (2, (1, 0), (0,), (0,)),
                        (2, (0, 1), (0,), ()), [2, (0, 1), (0,), (0,)], (2, [0, 1], (0,), (0,)),
                        (2, (0, 1), [0], (0,)), (2, (0, 1), (0,), [0]),
                        (2, (False, 1), (0,), (0,)), (2, (0, True), (0,), (0,)), (2, (0, 1), (False,), (0,)),
                        (2, (0, 1), (0,), (False,)), None, (), 2, (2,), PAIR + (1,), {2: PAIR}]:
            self.assertEqual(self.check(ROUGH, PRICES, [("round", witness, 1)]), 0)

    def test_entries_that_are_not_right(self):
        good = [("round", PAIR, 1), ("tell", 2, 3), ("narrow", 0, 2, 4)]
        self.assertIsNone(self.check(ROUGH, PRICES, good))
        for entry in [("tell", 2, 3), ("tell", 0, 1), ("tell", 0, 5), ("tell", 3, 3), ("tell", -1, 3),
                      ("tell", True, 2), ("tell", False, 3), ("tell", 0, None), ("tell", 0, "3"), ("tell", 0),
                      ("tell",), ("tell", 0, 3, 3),
                      ("narrow", 2, 3, 3), ("narrow", 0, 1, 4), ("narrow", 0, 3, 2), ("narrow", 0, 2, 5),
                      ("narrow", 1, True, 3), ("narrow", 1, 2, True), ("narrow", True, 2, 3), ("narrow", 3, 1, 1),
                      ("narrow", 0, 2), ("narrow", 0, 2, 3, 3), ("narrow",), ("round",), ("round", PAIR), ("undo",),
                      ("round", PAIR, 1, 1), ("Tell", 0, 3), ("told", 0, 3), (b"tell", 0, 3), (None, 0, 3), (0, 3), (),
                      ["tell", 0, 3], "tell", {0: "tell"}, None, 0, True, [], ("tell", (0, 3)), ("tell", [0], 3),
                      (["tell"], 0, 3), ("correct", 0, 2, 3), ("measure", 0, 3)]:
            self.assertEqual(self.check(ROUGH, PRICES, good + [entry]), 3, entry)
            self.assertEqual(self.check(ROUGH, PRICES, good + [entry, ("tell", 1, 2)]), 3, entry)
        for entry in [("tell", 0, 2), ("tell", 0, 4), ("tell", 1, 3), ("narrow", 0, 2, 4), ("narrow", 0, 4, 4),
                      ("narrow", 1, 2, 2), ("narrow", 1, 2, 3), ("round", (0, (2, 1), (0,), ()), 1)]:
            self.assertIsNone(self.check(ROUGH, PRICES, good + [entry]), entry)

    def test_bools_are_no_numbers(self):
        web = (2, ((0, 1, 0, 1), (0, 1, 0, 2)))
        for entry in [("tell", 0, True), ("tell", 0, False), ("tell", False, 0), ("tell", True, 0), ("tell", 1, True),
                      ("narrow", 0, False, 1), ("narrow", 0, 0, True), ("narrow", False, 0, 1), ("narrow", True, 0, 1)]:
            self.assertEqual(self.check(web, (1, 1), [entry]), 0)

    def test_any_value(self):
        good = [("round", PAIR, 1), ("tell", 2, 3)]
        for value in odd_values() + [good[0], tuple(good), {0: good[0]}, ROUGH, (good,), [good]]:
            for web, prices in [(ROUGH, PRICES), (ALONE, ()), (TWIN, (1, 1))]:
                self.assertIs(is_record(web, prices, value), exact(value) == "[]", value)
                if type(value) is list:
                    self.assertEqual(first_wrong(web, prices, value), 0 if value else None)
            self.assertEqual(first_wrong(ROUGH, PRICES, good + [value]), 2, value)
            if exact(value) != exact(good[0]):
                self.assertEqual(first_wrong(ROUGH, PRICES, [value] + good), 0, value)
            for entry in [("round", value, 1), ("round", PAIR, value), ("tell", value, 3), ("tell", 2, value),
                          ("narrow", value, 3, 3), ("narrow", 2, value, 6), ("narrow", 2, 3, value), (value, 2, 3)]:
                self.check(ROUGH, PRICES, [entry])

    def test_empty(self):
        for web in TRIED + LARGE:
            prices = (3,) * len(web[1])
            self.assertEqual([first_wrong(web, prices, []), is_record(web, prices, [])], [None, True])
            self.assertIs(is_record(web, prices, ()), False)


class ResumedTest(unittest.TestCase):
    def check(self, web, prices, record):
        """Check a measurer that is resumed, all the way back through the tellings of the record."""
        model = Model(self, web, prices, resumed(web, prices, record), record)
        self.assertEqual(model.measurer.record()[:len(record)], record)
        self.assertLessEqual(len(model.measurer.record()), len(record) + 1)
        return model

    def test_records_of_measurers(self):
        for at, web in enumerate(TRIED + LARGE):
            measurer, prices = drawn_measurer(web, random.Random(at), 6)
            other = resumed(web, prices, measurer.record())
            self.assertTrue(other == measurer and measurer == other)
            self.assertEqual(told_by(other), told_by(measurer))
            self.assertEqual(other.record(), measurer.record())
            self.check(web, prices, measurer.record()).check_way_back()
            while measurer.undo() is not None:
                other.undo()
                self.assertTrue(other == measurer)
            self.assertEqual([other.undo(), other], [None, Measurer(web, prices)])

    def test_beginnings_of_records(self):
        for at, web in enumerate(TRIED[::3] + LARGE[:1]):
            measurer, prices = drawn_measurer(web, random.Random(at), 5)
            record = measurer.record()
            for many in range(len(record) + 1):
                model = self.check(web, prices, record[:many])
                calls = [entry for entry in record[:many] if entry[0] != "round"]
                self.assertEqual(model.measurer, make(web, prices, calls))

    def test_other_records(self):
        due = 0
        for at, web in enumerate(TRIED + [RICH] * 10):
            draw = random.Random(at)
            prices = drawn_prices(web, draw)
            record = drawn_record(web, prices, draw, 9)
            model = self.check(web, prices, record)
            for _ in range(3):
                call = drawn_call(*model.known()[:2], draw)
                if call is not None:
                    self.assertIsNone(model.call(*call))
                    model.check()
            while any(entry[0] != "round" for entry in model.entries):
                due += model.undo()
                model.check()
            self.assertIsNone(model.measurer.undo())
            model.check()
        self.assertGreater(due, 5)

    def test_empty_record(self):
        for web in TRIED + LARGE + [BEYOND]:
            prices = tuple(range(1, len(web[1]) + 1))
            measurer = resumed(web, prices, [])
            self.assertEqual(measurer, Measurer(web, prices))
            self.assertEqual(len(measurer.record()), find_witness(web) is not None)

    def test_round_that_is_missing(self):
        measurer = resumed(ROUGH, PRICES, [("tell", 2, 3)])
        self.assertEqual([measurer.record()[0], measurer.asked(), measurer.paid(), measurer.extra()],
                         [("tell", 2, 3), (0,), 0, 1])
        self.assertEqual(measurer.undo(), ("tell", 2, 3))
        self.assertEqual(measurer, Measurer(ROUGH, PRICES))
        # No round is missing where the web is fixed.
        measurer = resumed(ROUGH, PRICES, [("narrow", 0, 1, 1)])
        self.assertEqual([measurer.record(), measurer.undo()], [[("narrow", 0, 1, 1)], ("narrow", 0, 1, 1)])
        self.assertEqual(measurer, Measurer(ROUGH, PRICES))

    def test_record_is_neither_kept_nor_changed(self):
        record = make(ROUGH, PRICES, [("tell", 2, 3)]).record()
        before = copy.deepcopy(record)
        measurer = resumed(ROUGH, PRICES, record)
        one = resumed(ROUGH, PRICES, record)
        self.assertEqual(exact(record), exact(before))
        record.clear()
        self.assertEqual(measurer.record(), before)
        measurer.tell(0, 2)
        measurer.undo()
        measurer.undo()
        self.assertEqual([one.record(), one.undo()], [before, ("tell", 2, 3)])


class LedgerTest(unittest.TestCase):
    def check(self, web, now, prices, value):
        right = ledger_ok(web, now, prices, value)
        self.assertIs(is_ledger(web, now, prices, value), right, (web, now, prices, value))
        return right

    def drawn(self, web, draw):
        """Return the web of now, prices, and a ledger, of a measurer or of a record with any rounds."""
        if draw.random() < 0.5:
            measurer, prices = drawn_measurer(web, draw, 6)
        else:
            prices = drawn_prices(web, draw)
            measurer = resumed(web, prices, drawn_record(web, prices, draw, 7))
        return measurer.web(), prices, measurer.ledger()

    def test_ledgers_of_measurers_in_any_order_and_parts_of_them(self):
        longest = 0
        for at, web in enumerate(TRIED + [RICH] * 10 + LARGE):
            draw = random.Random(at)
            now, prices, ledger = self.drawn(web, draw)
            longest = max(longest, len(ledger))
            self.assertIs(is_ledger(web, now, prices, ledger), True)
            for rows in list(itertools.permutations(ledger))[:24]:
                self.assertTrue(self.check(web, now, prices, list(rows)))
            for many in range(len(ledger)):
                for rows in itertools.combinations(ledger, many):
                    self.assertTrue(self.check(web, now, prices, list(rows)))
            self.check(web, web, prices, ledger)
            for _ in range(4):
                call = drawn_call(now, {}, draw)
                now = with_bounds(now, call[1], call[2], call[-1]) if call else now
                self.check(web, now, prices, ledger)
        self.assertGreater(longest, 2)

    def test_narrower_webs(self):
        # What is known later never spoils a ledger of a measurer.
        for at, web in enumerate(TRIED):
            draw = random.Random(at)
            measurer, prices = drawn_measurer(web, draw, 3)
            ledger = measurer.ledger()
            for _ in range(4):
                call = drawn_call(measurer.web(), measurer.told(), draw)
                if call is not None:
                    getattr(measurer, call[0])(*call[1:])
                self.assertIs(is_ledger(web, measurer.web(), prices, ledger), True)

    def test_sum_of_the_amounts_is_owed(self):
        for at, web in enumerate(drawn_webs(40) + [ROUGH, WIDE, TIED]):
            draw = random.Random(at)
            now, prices, ledger = self.drawn(web, draw)
            owed = sum(entry[5] for entry in ledger)
            possible = all_lengths(now)
            for lengths in possible[::len(possible) // 8 + 1]:
                self.assertLessEqual(owed, least_price(web, lengths, prices))

    def test_empty(self):
        for web in TRIED:
            prices = (1,) * len(web[1])
            self.assertIs(is_ledger(web, web, prices, []), True)
            for value in [(), {}, None, "", 0, ((),)]:
                self.assertIs(is_ledger(web, web, prices, value), False)

    def test_changed_at_any_place(self):
        seen = set()
        for at, web in enumerate(TRIED[::3] + [RICH] * 2):
            now, prices, ledger = self.drawn(web, random.Random(at))
            for value in changed(ledger[:2]):
                seen.add(self.check(web, now, prices, value))
                self.check(web, web, prices, value)
        self.assertEqual(seen, {True, False})

    def test_amounts(self):
        entry = (2, (0, 1), (0,), (0,), ((1, 4), (3, 6)))
        for prices, most in [((2, 1, 1), 1), ((1, 1, 2), 1), ((3, 1, 4), 3), ((99, 1, 98), 98), ((9, 1, 7), 7)]:
            for amount in [*range(-1, 12), 97, 98, 99, 100, True, False, None, "1", (1,), [1], 10 ** 59]:
                right = type(amount) is int and 1 <= amount <= most
                self.assertIs(self.check(ROUGH, ROUGH, prices, [entry + (amount,)]), right, (prices, amount))

    def test_entries_that_are_there_twice(self):
        entry = (2, (0, 1), (0,), (0,), ((1, 4), (3, 6)))
        for prices, amounts, right in [
                ((2, 1, 2), (1, 1), True), ((2, 1, 1), (1, 1), False), ((1, 1, 2), (1, 1), False),
                ((5, 1, 6), (2, 3), True), ((5, 1, 6), (3, 3), False), ((3, 1, 3), (1, 1, 1), True),
                ((3, 1, 3), (1, 1, 1, 1), False), ((3, 1, 3), (3, 0), False), ((3, 1, 3), (4, -1), False),
                ((3, 1, 3), (2, True), False)]:
            rows = [entry + (amount,) for amount in amounts]
            self.assertIs(self.check(ROUGH, ROUGH, prices, rows), right, (prices, amounts))

    def test_roads_of_several_entries(self):
        web = (2, ((0, 1, 0, 9), (0, 1, 1, 10), (0, 1, 2, 11)))
        one, other = (1, (0,), (0,), (0,), ((0, 9), (1, 10))), (2, (0,), (0,), (0, 1), ((0, 9), (1, 10), (2, 11)))
        for prices, amounts, right in [
                ((3, 3, 3), (1, 2), True), ((3, 3, 3), (1, 3), False), ((3, 3, 2), (1, 2), True),
                ((2, 3, 3), (1, 2), False), ((3, 2, 3), (1, 2), False), ((3, 3, 1), (1, 2), False),
                ((3, 3, 1), (2, 1), True), ((9, 9, 4), (5, 4), True), ((9, 8, 4), (5, 4), False)]:
            rows = [one + amounts[:1], other + amounts[1:]]
            for value in (rows, rows[::-1]):
                self.assertIs(self.check(web, web, prices, value), right, (prices, amounts))

    def test_witness_that_is_not_tight(self):
        # A ledger asks for witnesses, not for tight ones.
        web = (3, ((0, 1, 0, 4), (1, 2, 4, 6), (0, 2, 3, 9)))
        self.assertIs(self.check(web, web, PRICES, [(2, (0, 1), (0,), (0,), ((0, 4), (3, 9)), 1)]), True)
        web = (4, ((0, 1, 0, 9), (1, 2, 0, 8), (2, 3, 0, 7), (0, 3, 0, 10), (0, 2, 0, 9)))
        self.assertIs(self.check(web, web, (1,) * 5, [(4, (0, 1), (0,), (0, 3), ((0, 9), (0, 10), (0, 9)), 1)]), True)

    def test_bounds(self):
        entry = (2, (0, 1), (0,), (0,))
        self.assertIs(self.check(ROUGH, ROUGH, PRICES, [entry + (((1, 4), (3, 6)), 1)]), True)
        for bounds in [((1, 4), (3, 7)), ((0, 4), (3, 6)), ((1, 5), (3, 6)), ((1, 4), (2, 6)), ((4, 1), (3, 6)),
                       ((1, 4), (6, 3)), ((1, 4),), ((3, 6),), ((1, 4), (3, 6), (2, 3)), ((1, 4), (2, 3), (3, 6)), (),
                       ((3, 6), (1, 4)), ((True, 4), (3, 6)), ((1, 4), (3, 6, 6)), ((1,), (3, 6)), ((), ()),
                       [(1, 4), (3, 6)], ([1, 4], (3, 6)), ((1, 4), [3, 6]), ((1, None), (3, 6)), (1, 4, 3, 6), None,
                       ((1, 4), None), ((1, "4"), (3, 6)), {0: (1, 4), 2: (3, 6)}, ((1, 4), (3, 10 ** 59)), "1436"]:
            self.assertIs(self.check(ROUGH, ROUGH, PRICES, [entry + (bounds, 1)]), False, bounds)
        right = [((low, high), (lower, higher)) for low in range(1, 5) for high in range(low, 5)
                 for lower in range(3, 7) for higher in range(lower, 7)]
        seen = {self.check(ROUGH, ROUGH, PRICES, [entry + (bounds, 1)]) for bounds in right}
        self.assertEqual(seen, {True, False})

    def test_bounds_are_those_of_the_witness_and_the_rest_is_that_of_now(self):
        # The roads of the witness have the bounds told, whatever now says of them; the others have those of now.
        entry = (2, (0, 1), (0,), (0,), ((1, 4), (3, 6)), 1)
        for road, low, high in [(0, 1, 1), (0, 4, 4), (2, 6, 6), (2, 3, 3)]:
            self.assertIs(self.check(ROUGH, with_bounds(ROUGH, road, low, high), PRICES, [entry]), True)
        entry = (0, (2, 1), (0,), (), ((1, 4),), 2)
        for road, low, high, right in [(0, 1, 4, False), (2, 3, 3, True), (2, 3, 4, False), (2, 4, 4, False)]:
            now = with_bounds(ROUGH, road, low, high)
            self.assertIs(self.check(ROUGH, now, PRICES, [entry]), right, (road, low, high))
        web = (3, ((0, 1, 0, 4), (1, 2, 0, 10), (0, 2, 3, 9)))
        entry = (2, (0, 1), (0,), (0,), ((0, 4), (3, 9)), 1)
        for high, right in [(10, False), (9, True), (0, True)]:
            self.assertIs(self.check(web, with_bounds(web, 1, 0, high), PRICES, [entry]), right, high)

    def test_bools_and_lists(self):
        web = (2, ((0, 1, 0, 1), (0, 1, 0, 2)))
        good = (1, (0,), (0,), (0,), ((0, 1), (0, 2)), 1)
        self.assertIs(self.check(web, web, (1, 1), [good]), True)
        for value in [(True, (0,), (0,), (0,), ((0, 1), (0, 2)), 1), (1, (False,), (0,), (0,), ((0, 1), (0, 2)), 1),
                      (1, (0,), (False,), (0,), ((0, 1), (0, 2)), 1), (1, (0,), (0,), (False,), ((0, 1), (0, 2)), 1),
                      (1, (0,), (0,), (0,), ((False, 1), (0, 2)), 1), (1, (0,), (0,), (0,), ((0, True), (0, 2)), 1),
                      (1, (0,), (0,), (0,), ((0, 1), (False, 2)), 1), (1, (0,), (0,), (0,), ((0, 1), (0, 2)), True),
                      (1, (0,), (0,), [0], ((0, 1), (0, 2)), 1), list(good), good[:5], good + (1,), (good,), (), None,
                      (1, (0,), (0,), (0, 0), ((0, 1), (0, 1), (0, 2)), 1), (1, (0,), (0,), (1,), ((0, 2), (0, 2)), 1),
                      (1, (0,), (0,), (0, 1), ((0, 1), (0, 2), (0, 2)), 1), (1, (0,), (0,), (2,), ((0, 2), (0, 2)), 1),
                      (1, (0,), (0,), (), ((0, 2),), 1), (2, (0,), (0,), (0,), ((0, 1), (0, 2)), 1),
                      (-1, (0,), (0,), (0,), ((0, 1), (0, 2)), 1), (1, (0,), (0,), (-2,), ((0, 1), (0, 2)), 1)]:
            self.assertIs(self.check(web, web, (9, 9), [value]), False, value)
            self.assertIs(self.check(web, web, (9, 9), [good, value]), False, value)
            self.assertIs(self.check(web, web, (9, 9), [value, good]), False, value)
        self.assertIs(is_ledger(web, web, (1, 1), (good,)), False)
        self.assertIs(is_ledger(web, web, (1, 1), {0: good}), False)

    def test_any_value(self):
        good = (2, (0, 1), (0,), (0,), ((1, 4), (3, 6)), 1)
        for value in odd_values() + [good, ROUGH, PRICES, (good,)]:
            self.assertIs(is_ledger(ROUGH, ROUGH, PRICES, value), exact(value) == "[]", value)
            self.assertIs(is_ledger(ALONE, ALONE, (), value), exact(value) == "[]", value)
            self.assertIs(is_ledger(ROUGH, ROUGH, PRICES, [value]), exact(value) == exact(good), value)
            self.assertIs(is_ledger(ROUGH, ROUGH, PRICES, [good, value]), False, value)
            for at in range(6):
                other = good[:at] + (value,) + good[at + 1:]
                self.assertIs(is_ledger(ROUGH, ROUGH, PRICES, [other]), exact(other) == exact(good), other)
            for at in range(2):
                bounds = good[4][:at] + (value,) + good[4][at + 1:]
                self.assertIs(is_ledger(ROUGH, ROUGH, PRICES, [good[:4] + (bounds, 1)]), False, bounds)

    def test_arguments_do_not_change(self):
        measurer = make(ROUGH, PRICES, [("tell", 2, 3)])
        ledger, record = measurer.ledger(), measurer.record()
        before = exact([ledger, record])
        is_ledger(ROUGH, measurer.web(), PRICES, ledger)
        first_wrong(ROUGH, PRICES, record)
        is_record(ROUGH, PRICES, record)
        self.assertEqual(exact([ledger, record]), before)


class EntriesTest(unittest.TestCase):
    def test_rounds_of_the_samples_are_right(self):
        # A check of the samples: rounds that differ from those of the package are among them.
        seen = set()
        for seed in range(20):
            draw = random.Random(seed)
            record = drawn_record(RICH, (2,) * 6, draw, 6)
            for at, entry in enumerate(record):
                state = known(RICH, (2,) * 6, record[:at])
                self.assertTrue(entry_ok(*state, entry))
                if entry[0] == "round":
                    seen.add((entry[1] == find_witness(state[0]), is_fixed(RICH)))
        self.assertEqual(seen, {(True, False), (False, False)})
        self.assertEqual([is_fixed(CLEAR), is_fixed(LINE)], [True, True])


if __name__ == "__main__":
    unittest.main()
