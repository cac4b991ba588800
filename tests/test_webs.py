import unittest

from oracles import web_ok
from roughroads.webs import is_lengths, is_roads, is_web
from samples import ALONE, BEYOND, CLEAR, LARGE, LINE, ROUGH, SMALL, TWIN
from samples import all_lengths, drawn_webs, misshapen, near, odd_values

ROW = (0, 1, 1, 4)


class IsWebTest(unittest.TestCase):
    def test_examples(self):
        self.assertEqual([is_web(ROUGH), is_web((3, ((0, 1, 1, 4),))), is_web((1, ()))], [True, False, True])

    def test_webs(self):
        for web in SMALL + LARGE + [CLEAR, LINE, TWIN] + drawn_webs(30):
            self.assertIs(is_web(web), True, web)

    def test_each_size(self):
        for size in range(-1, 10):
            row = tuple((house, house + 1, 0, 99) for house in range(size - 1))
            self.assertIs(is_web((size, row)), 1 <= size <= 6, size)

    def test_each_number_of_roads(self):
        for many in range(13):
            self.assertIs(is_web((2, (ROW,) * many)), 1 <= many <= 10, many)

    def test_beyond(self):
        self.assertIs(is_web(BEYOND), False)

    def test_no_house_reached(self):
        self.assertIs(is_web((2, ())), False)
        self.assertIs(is_web((0, ())), False)
        self.assertIs(is_web((1, (ROW,))), False)
        self.assertIs(is_web((1, ((0, 0, 1, 4),))), False)

    def test_house_cut_off(self):
        for size, pairs in [(3, ["01", "01"]), (3, ["02"]), (3, ["12"]), (4, ["01", "23"]), (4, ["02", "13", "02"]),
                            (4, ["01", "12", "02"]), (5, ["01", "12", "34"]), (6, ["01", "12", "23", "34"]),
                            (6, ["12", "23", "34", "45", "15"]), (6, ["03", "14", "25", "03", "14"])]:
            rows = tuple((int(pair[0]), int(pair[1]), 1, 2) for pair in pairs)
            self.assertIs(is_web((size, rows)), False, pairs)

    def test_joined_in_any_order(self):
        for pairs in [["45", "34", "23", "12", "01"], ["01", "23", "45", "03", "25"], ["05", "04", "03", "02", "01"]]:
            rows = tuple((int(pair[0]), int(pair[1]), 1, 2) for pair in pairs)
            self.assertIs(is_web((6, rows)), True, pairs)
            self.assertIs(is_web((6, rows[1:])), False, pairs)

    def test_bounds(self):
        for low, high in [(0, 0), (0, 99), (99, 99), (5, 5), (4, 5)]:
            self.assertIs(is_web((2, ((0, 1, low, high),))), True, (low, high))
        for low, high in [(5, 4), (1, 0), (-1, 0), (-1, -1), (-5, 5), (99, 100), (0, 100), (100, 100), (99, 98),
                          (0, 10 ** 59), (-(10 ** 59), 0)]:
            self.assertIs(is_web((2, ((0, 1, low, high),))), False, (low, high))

    def test_houses(self):
        for a, b in [(0, 1), (0, 2), (1, 2)]:
            self.assertIs(is_web((3, ((0, 1, 1, 1), (1, 2, 1, 1), (a, b, 1, 1)))), True, (a, b))
        for a, b in [(0, 0), (1, 1), (1, 0), (2, 1), (0, 3), (2, 3), (-1, 0), (-1, 2), (-2, -1), (3, 4),
                     (0, 10 ** 59), (-(10 ** 59), 1)]:
            self.assertIs(is_web((3, ((0, 1, 1, 1), (1, 2, 1, 1), (a, b, 1, 1)))), False, (a, b))

    def test_bools_for_integers(self):
        self.assertIs(is_web((True, ())), False)
        for row in [(False, 1, 1, 4), (0, True, 1, 4), (0, 1, True, 4), (0, 1, 0, True), (0, 1, False, 0)]:
            self.assertIs(is_web((2, (row,))), False, row)

    def test_misshapen(self):
        for web in SMALL + LARGE:
            for value in misshapen(web):
                self.assertIs(is_web(value), False, value)

    def test_parts_too_many_or_too_few(self):
        for web in SMALL:
            size, rows = web
            for value in [(), (size,), (rows,), (size, rows, rows), (size, rows, ()), (size, *rows), (rows, size)]:
                self.assertIs(is_web(value), False, value)
            for at, row in enumerate(rows):
                for worse in [(), row[:1], row[:3], row[1:], row + (9,), row + (), row * 2]:
                    value = (size, rows[:at] + (worse,) + rows[at + 1:])
                    self.assertIs(is_web(value), worse == row, value)

    def test_roads_left_out_twice_or_changed(self):
        for web in SMALL + LARGE + drawn_webs(20):
            size, rows = web
            changed = [(size + by, rows) for by in (-2, -1, 1, 2)]
            for at, row in enumerate(rows):
                changed += [(size, rows[:at] + rows[at + 1:]), (size, rows + (row,))]
                changed += [(size, rows[:at] + (row[:part] + (row[part] + by,) + row[part + 1:],) + rows[at + 1:])
                            for part in range(4) for by in (-1, 1)]
            for value in changed:
                self.assertIs(is_web(value), web_ok(value), value)

    def test_any_value(self):
        for value in odd_values():
            self.assertIs(is_web(value), False)
            self.assertIs(is_web((value, ROUGH[1])), False)
            self.assertIs(is_web((3, value)), False)
            self.assertIs(is_web((3, ROUGH[1] + (value,))), False)
        for value in odd_values():
            if value not in range(1, 5):
                for at in range(4):
                    row = ROW[:at] + (value,) + ROW[at + 1:]
                    self.assertIs(is_web((2, (row,))), web_ok((2, (row,))), value)


class IsLengthsTest(unittest.TestCase):
    def test_examples(self):
        self.assertEqual([is_lengths(ROUGH, (4, 2, 3)), is_lengths(ROUGH, (5, 2, 3))], [True, False])

    def test_all_lengths(self):
        for web in SMALL:
            for lengths in all_lengths(web):
                self.assertIs(is_lengths(web, lengths), True, (web, lengths))

    def test_at_and_outside_of_the_bounds(self):
        for web in SMALL + LARGE + [BEYOND]:
            lows = tuple(row[2] for row in web[1])
            for at, row in enumerate(web[1]):
                for length in [row[2] - 1, row[2], row[3], row[3] + 1, -1, 10 ** 59, -(10 ** 59)]:
                    value = lows[:at] + (length,) + lows[at + 1:]
                    self.assertIs(is_lengths(web, value), row[2] <= length <= row[3], (web, value))

    def test_too_few_and_too_many(self):
        for value in [(), (1,), (1, 2), (2, 3), (1, 2, 3, 3), (1, 2, 3, 0), (1, 2, 3, 1, 2, 3), (1, 2, 3, None)]:
            self.assertIs(is_lengths(ROUGH, value), False, value)
        self.assertIs(is_lengths(ALONE, ()), True)
        self.assertIs(is_lengths(ALONE, (0,)), False)
        self.assertIs(is_lengths(ALONE, []), False)

    def test_bools(self):
        bits = (3, ((0, 1, 0, 1), (1, 2, 0, 1), (0, 2, 0, 1)))
        for value in [(False, 1, 0), (0, True, 0), (0, 1, False), (True, True, True)]:
            self.assertIs(is_lengths(bits, value), False, value)
        self.assertIs(is_lengths(bits, (0, 1, 0)), True)

    def test_misshapen(self):
        for web in SMALL:
            for lengths in all_lengths(web)[:3]:
                for value in misshapen(lengths):
                    self.assertIs(is_lengths(web, value), False, value)

    def test_near(self):
        for web in [ROUGH, SMALL[6], SMALL[10]]:
            right = all_lengths(web)
            for value in near(right[0], 7):
                expected = type(value) is tuple and all(type(part) is int for part in value) and value in right
                self.assertIs(is_lengths(web, value), expected, value)

    def test_any_value(self):
        for value in odd_values():
            for web in [ROUGH, TWIN, ALONE]:
                self.assertIs(is_lengths(web, value), False)
            if value not in range(1, 5):
                self.assertIs(is_lengths(ROUGH, (value, 2, 3)), False)


class IsRoadsTest(unittest.TestCase):
    """The part of several promises that asks for an ascending tuple of roads."""

    def test_values(self):
        for value in [(), (0,), (2,), (0, 1), (0, 2), (0, 1, 2)]:
            self.assertIs(is_roads(ROUGH, value), True, value)
        for value in [(0, 0), (1, 0), (0, 1, 1), (0, 2, 1), (3,), (-1,), (-1, 0), (0, 3), (False,), (0, True), (None,),
                      [0], [], None, 0, "", ((0,),), {}]:
            self.assertIs(is_roads(ROUGH, value), False, value)


if __name__ == "__main__":
    unittest.main()
