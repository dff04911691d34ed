"""Which places a place touches."""

import unittest

from rulesheet.errors import OffSheet, SheetError
from rulesheet.reckon import reckoned
from rulesheet.sheet import Sheet
from rulesheet.touch import touched

FAR = 10 ** 30
# Python writes out no number this long unless it is told to.
ENDLESS = 10 ** 5000


def at(row, column):
    return (row, column, False, False)


def cell(row, column):
    return ("cell", at(row, column))


def num(number):
    return ("num", number)


class TouchedTest(unittest.TestCase):
    def test_itself_alone(self):
        for high, wide in [(1, 1), (3, 4), (12, 12)]:
            sheet = Sheet(high, wide)
            for place in sheet.places():
                self.assertEqual(touched(sheet, place), [place])

    def test_what_needs_it_but_not_what_it_needs(self):
        sheet = Sheet(1, 3)
        sheet.put((0, 1), cell(0, 0))
        sheet.put((0, 2), num(4))
        self.assertEqual(touched(sheet, (0, 0)), [(0, 0), (0, 1)])
        self.assertEqual(touched(sheet, (0, 1)), [(0, 1)])
        self.assertEqual(touched(sheet, (0, 2)), [(0, 2)])

    def test_by_way_of_others(self):
        sheet = Sheet(3, 3)
        sheet.put((2, 1), cell(1, 1))
        sheet.put((0, 0), cell(2, 1))
        sheet.put((2, 0), ("add", cell(0, 0), cell(2, 2)))
        self.assertEqual(touched(sheet, (1, 1)), [(0, 0), (1, 1), (2, 0), (2, 1)])
        self.assertEqual(touched(sheet, (2, 1)), [(0, 0), (2, 0), (2, 1)])
        self.assertEqual(touched(sheet, (2, 2)), [(2, 0), (2, 2)])

    def test_rising_by_row_then_column(self):
        sheet = Sheet(12, 12)
        way = [(5, 5), (11, 2), (2, 11), (10, 0), (0, 10), (2, 2), (9, 9), (9, 10), (1, 11)]
        for before, place in zip(way, way[1:]):
            sheet.put(place, cell(*before))
        for count in range(len(way)):
            self.assertEqual(touched(sheet, way[count]), sorted(way[count:]))

    def test_long_rows_of_needs(self):
        places = Sheet(12, 12).places()
        stepped = [places[k * 89 % 144] for k in range(144)]
        for way in [places, places[::-1], stepped]:
            sheet = Sheet(12, 12)
            for before, place in zip(way, way[1:]):
                sheet.put(place, cell(*before))
            for count in (0, 1, 72, 142, 143):
                self.assertEqual(touched(sheet, way[count]), sorted(way[count:]))

    def test_each_once_where_there_are_several_ways(self):
        sheet = Sheet(2, 2)
        sheet.put((0, 1), cell(0, 0))
        sheet.put((1, 0), cell(0, 0))
        sheet.put((1, 1), ("sum", at(0, 0), at(1, 0)))
        self.assertEqual(touched(sheet, (0, 0)), [(0, 0), (0, 1), (1, 0), (1, 1)])

    def test_each_form_of_need(self):
        for rule in [
            cell(1, 2),
            ("add", num(1), cell(1, 2)),
            ("sub", cell(1, 2), num(1)),
            ("mul", num(0), cell(1, 2)),
            ("pick", cell(1, 2), num(1), num(1)),
            ("pick", num(1), num(1), cell(1, 2)),
            ("pick", num(0), cell(1, 2), num(1)),
            ("sum", at(2, 3), at(1, 1)),
            ("most", at(1, 3), at(1, 1)),
            ("look", cell(1, 2), at(1, 0), at(1, 0), num(1)),
            ("look", num(0), at(1, 0), at(1, 0), cell(1, 2)),
            ("look", num(0), at(1, 1), at(1, 3), num(1)),
            ("look", num(0), at(0, 2), at(1, 2), num(1)),
        ]:
            sheet = Sheet(3, 5)
            sheet.put((0, 4), rule)
            self.assertEqual(touched(sheet, (1, 2)), [(0, 4), (1, 2)])
            self.assertEqual(touched(sheet, (2, 0)), [(2, 0)])

    def test_rings(self):
        sheet = Sheet(2, 3)
        sheet.put((0, 0), cell(0, 0))
        self.assertEqual(touched(sheet, (0, 0)), [(0, 0)])
        sheet.put((0, 0), cell(1, 1))
        sheet.put((1, 1), ("add", cell(0, 0), cell(0, 1)))
        sheet.put((1, 2), cell(1, 1))
        for place in [(0, 0), (1, 1)]:
            self.assertEqual(touched(sheet, place), [(0, 0), (1, 1), (1, 2)])
        self.assertEqual(touched(sheet, (0, 1)), [(0, 0), (0, 1), (1, 1), (1, 2)])
        self.assertEqual(touched(sheet, (1, 2)), [(1, 2)])

    def test_where_all_cells_need_all_cells(self):
        sheet = Sheet(12, 12)
        for place in sheet.places():
            sheet.put(place, ("sum", at(0, 0), at(11, 11)))
        for place in [(0, 0), (5, 7), (11, 11)]:
            self.assertEqual(touched(sheet, place), sheet.places())

    def test_off_the_sheet_is_refused(self):
        for high, wide in [(1, 1), (2, 5), (12, 12)]:
            sheet = Sheet(high, wide)
            rows = [-ENDLESS, -FAR, -high, -1, high, high + 1, FAR, ENDLESS]
            columns = [-ENDLESS, -FAR, -wide, -1, wide, wide + 1, FAR, ENDLESS]
            off = [(row, 0) for row in rows] + [(0, column) for column in columns]
            off += [(row, column) for row in rows for column in columns]
            for place in off:
                with self.assertRaises(OffSheet):
                    touched(sheet, place)
        with self.assertRaises(OffSheet):
            touched(Sheet(2, 5), (4, 1))
        with self.assertRaises(SheetError):
            touched(Sheet(2, 5), (2, 0))

    def test_another_rule_changes_no_value_but_of_what_is_touched(self):
        sheet = Sheet(3, 3)
        sheet.put((0, 0), num(3))
        sheet.put((0, 1), ("add", cell(0, 0), num(1)))
        sheet.put((1, 1), ("mul", cell(0, 1), cell(2, 2)))
        sheet.put((2, 2), num(5))
        sheet.put((2, 0), ("most", at(0, 0), at(0, 1)))
        sheet.put((1, 2), num(8))
        before = reckoned(sheet)
        reached = touched(sheet, (0, 0))
        self.assertEqual(reached, [(0, 0), (0, 1), (1, 1), (2, 0)])
        sheet.put((0, 0), num(100))
        after = reckoned(sheet)
        changed = [(row, column) for row, column in sheet.places() if before[row][column] != after[row][column]]
        self.assertEqual(changed, reached)

    def test_after_another_rule_is_put(self):
        sheet = Sheet(1, 4)
        sheet.put((0, 1), cell(0, 0))
        self.assertEqual(touched(sheet, (0, 0)), [(0, 0), (0, 1)])
        sheet.put((0, 3), cell(0, 1))
        self.assertEqual(touched(sheet, (0, 0)), [(0, 0), (0, 1), (0, 3)])
        sheet.put((0, 1), num(1))
        self.assertEqual(touched(sheet, (0, 0)), [(0, 0)])
        self.assertEqual(touched(sheet, (0, 1)), [(0, 1), (0, 3)])
        sheet.copied((0, 3), (0, 2))
        self.assertEqual(touched(sheet, (0, 0)), [(0, 0), (0, 2)])

    def test_what_was_told_is_the_askers_own(self):
        sheet = Sheet(2, 2)
        sheet.put((1, 1), cell(0, 0))
        first, again = touched(sheet, (0, 0)), touched(sheet, (0, 0))
        again.append((1, 0))
        again.reverse()
        self.assertEqual(touched(sheet, (0, 0)), [(0, 0), (1, 1)])
        sheet.put((0, 1), cell(1, 1))
        self.assertEqual(first, [(0, 0), (1, 1)])
        self.assertEqual(touched(sheet, (0, 0)), [(0, 0), (0, 1), (1, 1)])

    def test_a_second_sheet_stays_as_it_was(self):
        one, two = Sheet(2, 2), Sheet(2, 2)
        one.put((1, 1), cell(0, 0))
        self.assertEqual(touched(two, (0, 0)), [(0, 0)])
        self.assertEqual(touched(one, (0, 0)), [(0, 0), (1, 1)])

    def test_kinds_and_that_asking_changes_no_rule(self):
        sheet = Sheet(2, 2)
        sheet.put((1, 0), cell(0, 0))
        told = touched(sheet, (0, 0))
        self.assertIs(type(told), list)
        for place in told:
            self.assertIs(type(place), tuple)
            self.assertEqual([type(number) for number in place], [int, int])
        rules = [sheet.rule(place) for place in sheet.places()]
        self.assertEqual(rules, [num(0), num(0), cell(0, 0), num(0)])

    def test_by_the_names_of_the_arguments(self):
        self.assertEqual(touched(place=(0, 0), sheet=Sheet(1, 1)), [(0, 0)])


if __name__ == "__main__":
    unittest.main()
