"""New sheets: their sizes, their places, the rule that each place has at first."""

import unittest

from rulesheet.errors import BadSize, OffSheet, SheetError
from rulesheet.reckon import reckoned
from rulesheet.sheet import Sheet

FAR = 10 ** 30
# Python writes out no number this long unless it is told to.
ENDLESS = 10 ** 5000
BAD = [-ENDLESS, -FAR, -144, -13, -12, -2, -1, 0, 13, 14, 24, 100, 144, FAR, ENDLESS]


def off_places(high, wide):
    """Places off a sheet of that size, on each side and beyond each corner."""
    rows = [-ENDLESS, -FAR, -high - 1, -high, -2, -1, high, high + 1, 2 * high, FAR, ENDLESS]
    columns = [-ENDLESS, -FAR, -wide - 1, -wide, -2, -1, wide, wide + 1, 2 * wide, FAR, ENDLESS]
    found = [(row, column) for row in rows for column in range(wide)]
    found += [(row, column) for row in range(high) for column in columns]
    return found + [(row, column) for row in rows for column in columns]


class SizeTest(unittest.TestCase):
    def test_each_size_is_taken(self):
        for high in range(1, 13):
            for wide in range(1, 13):
                sheet = Sheet(high, wide)
                self.assertEqual((sheet.high, sheet.wide), (high, wide))
                self.assertEqual((type(sheet.high), type(sheet.wide)), (int, int))

    def test_by_the_names_of_the_arguments(self):
        sheet = Sheet(wide=5, high=2)
        self.assertEqual((sheet.high, sheet.wide), (2, 5))

    def test_too_few_or_too_many_rows(self):
        for high in BAD:
            for wide in range(1, 13):
                with self.assertRaises(BadSize):
                    Sheet(high, wide)

    def test_too_few_or_too_many_columns(self):
        for wide in BAD:
            for high in range(1, 13):
                with self.assertRaises(BadSize):
                    Sheet(high, wide)

    def test_both_wrong(self):
        for high in BAD:
            for wide in BAD:
                with self.assertRaises(BadSize):
                    Sheet(high, wide)

    def test_the_refusal_is_a_sheet_error(self):
        with self.assertRaises(SheetError):
            Sheet(0, 0)
        with self.assertRaises(ValueError):
            Sheet(13, 1)


class PlacesTest(unittest.TestCase):
    def test_row_by_row_each_from_the_left(self):
        self.assertEqual(Sheet(1, 1).places(), [(0, 0)])
        self.assertEqual(Sheet(1, 3).places(), [(0, 0), (0, 1), (0, 2)])
        self.assertEqual(Sheet(3, 1).places(), [(0, 0), (1, 0), (2, 0)])
        self.assertEqual(Sheet(2, 3).places(), [(0, 0), (0, 1), (0, 2), (1, 0), (1, 1), (1, 2)])

    def test_every_size(self):
        for high in range(1, 13):
            for wide in range(1, 13):
                wanted = [(row, column) for row in range(high) for column in range(wide)]
                self.assertEqual(Sheet(high, wide).places(), wanted)

    def test_kinds(self):
        told = Sheet(2, 2).places()
        self.assertIs(type(told), list)
        for place in told:
            self.assertIs(type(place), tuple)
            self.assertEqual([type(number) for number in place], [int, int])

    def test_the_list_is_the_askers_own(self):
        sheet = Sheet(2, 2)
        first = sheet.places()
        told = sheet.places()
        told.append((2, 2))
        told.reverse()
        del told[1]
        self.assertEqual(sheet.places(), [(0, 0), (0, 1), (1, 0), (1, 1)])
        self.assertEqual(first, [(0, 0), (0, 1), (1, 0), (1, 1)])
        self.assertEqual(reckoned(sheet), [[0, 0], [0, 0]])
        with self.assertRaises(OffSheet):
            sheet.rule((2, 2))


class RuleTest(unittest.TestCase):
    def test_at_first_each_place_has_nought(self):
        for high, wide in [(1, 1), (1, 12), (12, 1), (3, 7), (12, 12)]:
            sheet = Sheet(high, wide)
            for row in range(high):
                for column in range(wide):
                    self.assertEqual(sheet.rule((row, column)), ("num", 0))

    def test_off_the_sheet_is_refused(self):
        for high, wide in [(1, 1), (1, 12), (12, 1), (3, 7), (12, 12)]:
            sheet = Sheet(high, wide)
            for place in off_places(high, wide):
                with self.assertRaises(OffSheet):
                    sheet.rule(place)

    def test_rows_and_columns_are_not_taken_for_each_other(self):
        sheet = Sheet(2, 5)
        self.assertEqual(sheet.rule((1, 4)), ("num", 0))
        with self.assertRaises(OffSheet):
            sheet.rule((4, 1))
        with self.assertRaises(OffSheet):
            sheet.rule((2, 0))

    def test_two_sheets_have_rules_of_their_own(self):
        one, two = Sheet(2, 2), Sheet(2, 2)
        one.put((0, 1), ("num", 5))
        self.assertEqual(two.rule((0, 1)), ("num", 0))
        two.put((0, 1), ("num", 6))
        self.assertEqual(one.rule((0, 1)), ("num", 5))
        self.assertEqual(Sheet(2, 2).rule((0, 1)), ("num", 0))


if __name__ == "__main__":
    unittest.main()
