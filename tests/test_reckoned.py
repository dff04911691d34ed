"""The values of whole sheets."""

import unittest

from rulesheet.errors import OffSheet, TooDeep
from rulesheet.reckon import reckoned
from rulesheet.sheet import Sheet

MANY = 1000000000


def at(row, column):
    return (row, column, False, False)


def cell(row, column):
    return ("cell", at(row, column))


def num(number):
    return ("num", number)


def sheet_of(rows):
    """A sheet with these rules, row by row."""
    sheet = Sheet(len(rows), len(rows[0]))
    for row, rules in enumerate(rows):
        for column, rule in enumerate(rules):
            sheet.put((row, column), rule)
    return sheet


def stepped(places, step):
    """The places in another order, which begins at the first and takes each one once."""
    return [places[k * step % len(places)] for k in range(len(places))]


def ways_through(high, wide):
    """All places of a sheet, one behind the other, in very different orders."""
    rows = [(row, column) for row in range(high) for column in range(wide)]
    columns = [(row, column) for column in range(wide) for row in range(high)]
    return [rows, rows[::-1], columns, columns[::-1], stepped(rows, 5), stepped(rows, 89)[::-1]]


class ValuesTest(unittest.TestCase):
    def test_a_new_sheet(self):
        for high, wide in [(1, 1), (1, 12), (12, 1), (2, 3), (12, 12)]:
            self.assertEqual(reckoned(Sheet(high, wide)), [[0] * wide for _ in range(high)])

    def test_rows_from_above_each_from_the_left(self):
        sheet = sheet_of([[num(1), num(2), num(3)], [num(4), num(5), num(6)]])
        self.assertEqual(reckoned(sheet), [[1, 2, 3], [4, 5, 6]])

    def test_each_form(self):
        sheet = sheet_of([
            [num(-1), num(5), num(3)],
            [cell(0, 1), ("add", cell(0, 0), cell(0, 1)), ("sub", cell(0, 2), cell(0, 1))],
            [("mul", cell(0, 1), cell(0, 2)), ("pick", cell(0, 0), num(1), num(2)), ("sum", at(0, 0), at(1, 2))],
            [("most", at(0, 1), at(1, 1)), ("look", num(5), at(0, 1), at(1, 2), num(8)),
             ("look", num(9), at(0, 1), at(1, 2), num(8))],
        ])
        self.assertEqual(
            reckoned(sheet),
            [[999999999, 5, 3], [5, 4, 999999998], [15, 1, 14], [5, 3, 8]],
        )

    def test_kinds(self):
        sheet = Sheet(2, 2)
        sheet.put((0, 1), cell(0, 1))
        told = reckoned(sheet)
        self.assertIs(type(told), list)
        self.assertEqual([type(row) for row in told], [list, list])
        self.assertEqual([type(value) for value in told[1]], [int, int])
        self.assertIs(told[0][1], None)

    def test_a_row_of_needs_in_any_order_of_places(self):
        for way in ways_through(3, 4):
            sheet = Sheet(3, 4)
            sheet.put(way[0], num(100))
            for before, place in zip(way, way[1:]):
                sheet.put(place, ("add", num(1), cell(*before)))
            values = reckoned(sheet)
            for count, (row, column) in enumerate(way):
                self.assertEqual(values[row][column], 100 + count)

    def test_all_places_one_behind_the_other(self):
        for way in ways_through(12, 12):
            self.assertEqual(len(set(way)), 144)
            sheet = Sheet(12, 12)
            sheet.put(way[0], num(1))
            for before, place in zip(way, way[1:]):
                sheet.put(place, ("add", num(3), ("mul", num(7), cell(*before))))
            values = reckoned(sheet)
            wanted = 1
            for row, column in way:
                self.assertEqual(values[row][column], wanted)
                wanted = (wanted * 7 + 3) % MANY

    def test_each_cell_needs_all_cells_before_it(self):
        sheet = Sheet(12, 12)
        sheet.put((0, 0), num(1))
        for row, column in sheet.places()[1:]:
            above = ("sum", at(0, 0), at(row - 1, 11)) if row else num(0)
            beside = ("sum", at(row, 0), at(row, column - 1)) if column else num(0)
            sheet.put((row, column), ("add", above, beside))
        flat = [value for row in reckoned(sheet) for value in row]
        self.assertEqual(flat, [1, 1] + [2 ** k % MANY for k in range(1, 143)])

    def test_rows_of_needs_with_deep_rules(self):
        sheet = Sheet(12, 12)
        places = sheet.places()
        for before, place in zip(places[1:], places):
            rule = cell(*before)
            for _ in range(7):
                rule = ("add", rule, num(1))
            sheet.put(place, rule)
        flat = [value for row in reckoned(sheet) for value in row]
        self.assertEqual(flat, [7 * (143 - k) for k in range(144)])

    def test_a_need_by_two_ways(self):
        sheet = sheet_of([[num(2), ("mul", cell(0, 0), cell(0, 0)), ("add", cell(0, 0), cell(0, 1))]])
        self.assertEqual(reckoned(sheet), [[2, 4, 6]])


class NoneTest(unittest.TestCase):
    def test_a_cell_that_needs_itself(self):
        for rule in [
            cell(0, 1),
            ("cell", (0, 1, True, True)),
            ("add", num(1), cell(0, 1)),
            ("sum", at(0, 0), at(0, 2)),
            ("most", at(0, 2), at(0, 0)),
            ("look", cell(0, 1), at(0, 0), at(0, 0), num(1)),
        ]:
            sheet = sheet_of([[num(4), rule, num(6)]])
            self.assertEqual(reckoned(sheet), [[4, None, 6]])

    def test_two_that_need_each_other(self):
        sheet = sheet_of([[cell(1, 1), num(1)], [num(2), cell(0, 0)]])
        self.assertEqual(reckoned(sheet), [[None, 1], [2, None]])

    def test_all_cells_in_one_ring(self):
        for way in ways_through(12, 12):
            sheet = Sheet(12, 12)
            for before, place in zip(way, way[1:] + way[:1]):
                sheet.put(place, cell(*before))
            self.assertEqual(reckoned(sheet), [[None] * 12] * 12)

    def test_beside_a_ring(self):
        # The ring is (0, 1) and (0, 2): what needs it has no value, what it needs has one.
        sheet = sheet_of([
            [num(3), ("add", cell(0, 0), cell(0, 2)), cell(0, 1), cell(0, 2)],
            [cell(0, 3), ("sum", at(1, 0), at(1, 0)), cell(0, 0), ("add", cell(1, 2), num(1))],
        ])
        self.assertEqual(reckoned(sheet), [[3, None, None, None], [None, None, 3, 4]])

    def test_a_long_way_to_a_ring(self):
        sheet = Sheet(12, 12)
        places = sheet.places()
        sheet.put(places[70], cell(*places[70]))
        for before, place in zip(places[70:], places[71:]):
            sheet.put(place, cell(*before))
        for place in places[:70]:
            sheet.put(place, num(5))
        flat = [value for row in reckoned(sheet) for value in row]
        self.assertEqual(flat, [5] * 70 + [None] * 74)

    def test_a_long_way_from_a_ring(self):
        # The ring needs the long row of cells, which themselves come to no ring.
        sheet = Sheet(12, 12)
        places = sheet.places()
        for before, place in zip(places, places[1:]):
            sheet.put(place, ("add", cell(*before), num(1)))
        sheet.put(places[-1], ("add", cell(*places[-2]), cell(*places[-1])))
        flat = [value for row in reckoned(sheet) for value in row]
        self.assertEqual(flat, list(range(143)) + [None])

    def test_needed_although_the_value_does_not_hang_on_it(self):
        table = [[num(1), num(2), num(3)], [num(4), num(5), num(6)], [num(7), num(8), num(9)]]
        for rule in [
            ("pick", num(1), num(5), cell(3, 0)),
            ("pick", num(0), cell(3, 0), num(5)),
            ("mul", num(0), cell(3, 0)),
            ("look", num(1), at(0, 0), at(0, 2), cell(3, 0)),
            ("look", num(1), at(0, 0), at(3, 2), num(0)),
            ("look", cell(3, 0), at(0, 0), at(0, 0), num(0)),
        ]:
            sheet = sheet_of(table + [[rule, cell(3, 0), num(5)]])
            self.assertEqual(reckoned(sheet), [[1, 2, 3], [4, 5, 6], [7, 8, 9], [None, None, 5]])
        for place in [(0, 1), (1, 0), (1, 1), (1, 2)]:
            # Found in the first row, so that neither the middle column nor a later row would count.
            sheet = sheet_of(table + [[("look", num(1), at(0, 0), at(1, 2), num(0)), num(0), num(5)]])
            self.assertEqual(reckoned(sheet)[3], [3, 0, 5])
            sheet.put(place, cell(3, 0))
            values = reckoned(sheet)
            self.assertEqual((values[3], values[place[0]][place[1]]), ([None, 0, 5], None))

    def test_two_rings(self):
        sheet = sheet_of([
            [cell(0, 1), cell(0, 0), num(1), cell(1, 2)],
            [cell(0, 2), cell(1, 1), cell(1, 3), ("add", cell(0, 2), cell(0, 3))],
        ])
        self.assertEqual(reckoned(sheet), [[None, None, 1, None], [1, None, None, None]])


class AskedAgainTest(unittest.TestCase):
    def test_after_another_rule_is_put(self):
        sheet = sheet_of([[num(1), ("add", cell(0, 0), num(1)), ("mul", cell(0, 1), cell(0, 1))]])
        self.assertEqual(reckoned(sheet), [[1, 2, 4]])
        sheet.put((0, 0), num(4))
        self.assertEqual(reckoned(sheet), [[4, 5, 25]])
        sheet.put((0, 1), cell(0, 2))
        self.assertEqual(reckoned(sheet), [[4, None, None]])
        sheet.put((0, 2), num(9))
        self.assertEqual(reckoned(sheet), [[4, 9, 9]])

    def test_after_copying_and_filling(self):
        sheet = sheet_of([[num(2), ("mul", num(3), cell(0, 0)), num(0), num(0)]])
        self.assertEqual(reckoned(sheet), [[2, 6, 0, 0]])
        sheet.copied((0, 1), (0, 2))
        self.assertEqual(reckoned(sheet), [[2, 6, 18, 0]])
        sheet.filled((0, 2), (0, 1), (0, 3))
        self.assertEqual(reckoned(sheet), [[2, 6, 18, 54]])

    def test_what_was_told_is_the_askers_own(self):
        sheet = sheet_of([[num(1), cell(0, 0)], [cell(1, 0), num(3)]])
        first = reckoned(sheet)
        again = reckoned(sheet)
        again[0][0] = 77
        again[1].clear()
        again.append([5])
        self.assertEqual(first, [[1, 1], [None, 3]])
        self.assertEqual(reckoned(sheet), [[1, 1], [None, 3]])
        sheet.put((0, 0), num(8))
        self.assertEqual(first, [[1, 1], [None, 3]])
        self.assertEqual(reckoned(sheet), [[8, 8], [None, 3]])

    def test_rows_are_not_one_and_the_same_list(self):
        told = reckoned(Sheet(3, 2))
        told[0][1] = 9
        self.assertEqual(told, [[0, 9], [0, 0], [0, 0]])

    def test_asking_changes_no_rule(self):
        rows = [[num(1), cell(0, 0)], [cell(1, 0), ("sum", at(0, 1), at(0, 0))]]
        sheet = sheet_of(rows)
        reckoned(sheet)
        self.assertEqual([[sheet.rule((row, column)) for column in range(2)] for row in range(2)], rows)

    def test_a_second_sheet_stays_as_it_was(self):
        one, two = sheet_of([[num(1), cell(0, 0)]]), sheet_of([[num(1), cell(0, 0)]])
        one.put((0, 0), num(5))
        self.assertEqual(reckoned(two), [[1, 1]])
        self.assertEqual(reckoned(one), [[5, 5]])
        two.put((0, 0), cell(0, 1))
        self.assertEqual(reckoned(one), [[5, 5]])
        self.assertEqual(reckoned(two), [[None, None]])

    def test_after_a_refusal(self):
        sheet = sheet_of([[num(1), cell(0, 0)]])
        rule = num(1)
        for _ in range(8):
            rule = ("add", rule, num(1))
        with self.assertRaises(TooDeep):
            sheet.put((0, 0), rule)
        with self.assertRaises(OffSheet):
            sheet.put((0, 0), cell(1, 0))
        with self.assertRaises(OffSheet):
            sheet.copied((0, 1), (0, 0))
        with self.assertRaises(OffSheet):
            sheet.filled((0, 1), (0, 1), (0, 0))
        self.assertEqual(reckoned(sheet), [[1, 1]])


if __name__ == "__main__":
    unittest.main()
