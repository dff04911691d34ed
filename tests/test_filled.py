"""Rules that are filled into areas."""

import unittest

from rulesheet.errors import OffSheet
from rulesheet.reckon import reckoned
from rulesheet.rules import shifted
from rulesheet.sheet import Sheet

FAR = 10 ** 30
# Python writes out no number this long unless it is told to.
ENDLESS = 10 ** 5000
STAYS = [(False, False), (False, True), (True, False), (True, True)]


def four_orders(top, left, bottom, right):
    return [
        ((top, left), (bottom, right)),
        ((bottom, right), (top, left)),
        ((top, right), (bottom, left)),
        ((bottom, left), (top, right)),
    ]


def inside(place, top, left, bottom, right):
    return top <= place[0] <= bottom and left <= place[1] <= right


class FilledTest(unittest.TestCase):
    def setUp(self):
        self.new_sheet()

    def new_sheet(self):
        self.sheet = Sheet(5, 6)
        for place in self.sheet.places():
            self.sheet.put(place, ("num", 10 * place[0] + place[1]))

    def rules(self):
        return {place: self.sheet.rule(place) for place in self.sheet.places()}

    def refused(self, source, one, two):
        before = self.rules()
        with self.assertRaises(OffSheet):
            self.sheet.filled(source, one, two)
        self.assertEqual(self.rules(), before)

    def taken(self, source, rule, corners):
        """Fills in each order of the corners, and asks for each place of the sheet."""
        for one, two in four_orders(*corners):
            self.new_sheet()
            self.sheet.put(source, rule)
            wanted = self.rules()
            for place in self.sheet.places():
                if inside(place, *corners):
                    wanted[place] = shifted(rule, place[0] - source[0], place[1] - source[1])
            self.assertIsNone(self.sheet.filled(source, one, two))
            self.assertEqual(self.rules(), wanted)
            self.assertEqual(self.sheet.rule(source), rule)

    def test_by_hand(self):
        self.sheet.put((1, 1), ("cell", (1, 0, False, False)))
        self.assertIsNone(self.sheet.filled((1, 1), (2, 2), (3, 3)))
        self.assertEqual(self.sheet.rule((2, 2)), ("cell", (2, 1, False, False)))
        self.assertEqual(self.sheet.rule((2, 3)), ("cell", (2, 2, False, False)))
        self.assertEqual(self.sheet.rule((3, 2)), ("cell", (3, 1, False, False)))
        self.assertEqual(self.sheet.rule((3, 3)), ("cell", (3, 2, False, False)))
        self.assertEqual(self.sheet.rule((1, 1)), ("cell", (1, 0, False, False)))
        self.assertEqual(self.sheet.rule((2, 1)), ("num", 21))
        self.assertEqual(self.sheet.rule((3, 4)), ("num", 34))

    def test_up_and_left_by_hand(self):
        self.sheet.put((4, 5), ("sum", (4, 4, False, False), (3, 5, True, False)))
        self.sheet.filled((4, 5), (0, 1), (1, 2))
        self.assertEqual(self.sheet.rule((0, 1)), ("sum", (0, 0, False, False), (3, 1, True, False)))
        self.assertEqual(self.sheet.rule((0, 2)), ("sum", (0, 1, False, False), (3, 2, True, False)))
        self.assertEqual(self.sheet.rule((1, 1)), ("sum", (1, 0, False, False), (3, 1, True, False)))
        self.assertEqual(self.sheet.rule((1, 2)), ("sum", (1, 1, False, False), (3, 2, True, False)))

    def test_in_each_way_of_staying(self):
        areas = {
            (False, False): (1, 1, 3, 4),
            (False, True): (1, 0, 3, 5),
            (True, False): (0, 1, 4, 4),
            (True, True): (0, 0, 4, 5),
        }
        for stays, corners in areas.items():
            self.taken((2, 2), ("cell", (3, 3) + stays), corners)
            self.taken((2, 2), ("add", ("num", 1), ("cell", (1, 1) + stays)), corners)

    def test_the_source_beside_the_area(self):
        for stays in STAYS:
            rule = ("most", (2, 2) + stays, (2, 3, True, True))
            self.taken((2, 2), rule, (3, 3, 4, 5))
            self.taken((2, 2), rule, (0, 0, 1, 1))
            self.taken((2, 2), rule, (2, 3, 2, 5))
            self.taken((2, 2), rule, (0, 2, 1, 2))

    def test_the_source_within_the_area(self):
        # Not in a corner: what is copied later is still the rule that the source had.
        rule = ("sub", ("cell", (2, 1, False, False)), ("cell", (0, 2, True, False)))
        self.taken((2, 2), rule, (0, 1, 4, 5))
        for source in [(0, 1), (0, 5), (4, 1), (4, 5), (2, 3)]:
            rule = ("cell", (source[0], source[1] - 1, False, False))
            self.taken(source, rule, (0, 1, 4, 5))

    def test_a_single_place(self):
        self.taken((1, 1), ("cell", (1, 0, False, False)), (4, 5, 4, 5))
        self.taken((1, 1), ("cell", (1, 0, False, False)), (1, 1, 1, 1))

    def test_the_whole_sheet(self):
        self.taken((3, 2), ("num", 8), (0, 0, 4, 5))
        self.taken((3, 2), ("look", ("num", 1), (0, 0, True, True), (4, 5, True, True), ("num", 2)), (0, 0, 4, 5))

    def test_source_or_corner_off_the_sheet(self):
        off = [(-1, 0), (0, -1), (5, 0), (0, 6), (-5, 0), (0, -6), (5, 6), (FAR, 0), (0, -FAR), (-FAR, FAR)]
        off += [(ENDLESS, 0), (0, ENDLESS), (-ENDLESS, -ENDLESS)]
        for place in off:
            self.refused(place, (0, 0), (1, 1))
            self.refused((0, 0), place, (1, 1))
            self.refused((0, 0), (1, 1), place)
            self.refused(place, place, (1, 1))
            self.refused(place, (1, 1), place)
            self.refused((0, 0), place, place)
            self.refused(place, place, place)

    def test_no_place_is_filled_where_one_copy_is_refused(self):
        # Each time a single place, row or column of the area cannot have its copy: first, last, each side.
        self.sheet.put((2, 2), ("cell", (1, 1, False, False)))
        self.refused((2, 2), (0, 2), (4, 2))
        self.refused((2, 2), (2, 0), (2, 5))
        self.refused((2, 2), (1, 1), (0, 0))
        self.refused((2, 2), (0, 5), (4, 1))
        self.sheet.put((2, 2), ("cell", (3, 3, False, False)))
        self.refused((2, 2), (4, 2), (0, 2))
        self.refused((2, 2), (2, 5), (2, 0))
        self.refused((2, 2), (3, 5), (3, 4))
        self.refused((2, 2), (4, 3), (3, 3))
        self.refused((2, 2), (0, 0), (4, 5))
        self.sheet.filled((2, 2), (0, 0), (3, 4))

    def test_a_deep_reference_of_one_copy_off_the_sheet(self):
        rule = ("cell", (2, 5, False, False))
        for _ in range(7):
            rule = ("add", ("num", 1), rule)
        self.sheet.put((0, 0), rule)
        self.refused((0, 0), (0, 0), (0, 1))
        self.refused((0, 0), (0, 0), (3, 0))
        self.sheet.filled((0, 0), (0, 0), (2, 0))
        self.assertEqual(self.sheet.rule((2, 0)), shifted(rule, 2, 0))

    def test_what_is_refused_leaves_values_as_they_were(self):
        self.sheet.put((2, 2), ("cell", (1, 1, False, False)))
        before = reckoned(self.sheet)
        self.refused((2, 2), (4, 5), (0, 0))
        self.assertEqual(reckoned(self.sheet), before)

    def test_values_follow_the_filling(self):
        sheet = Sheet(3, 4)
        sheet.put((0, 0), ("num", 1))
        sheet.put((0, 1), ("mul", ("num", 2), ("cell", (0, 0, False, False))))
        sheet.filled((0, 1), (0, 3), (0, 1))
        sheet.put((1, 0), ("add", ("num", 100), ("cell", (0, 0, False, False))))
        sheet.filled((1, 0), (1, 0), (2, 3))
        self.assertEqual(reckoned(sheet), [[1, 2, 4, 8], [101, 102, 104, 108], [201, 202, 204, 208]])

    def test_another_sheet_stays_as_it_was(self):
        other = Sheet(5, 6)
        self.sheet.filled((0, 1), (0, 0), (4, 5))
        for place in other.places():
            self.assertEqual(other.rule(place), ("num", 0))

    def test_by_the_names_of_the_arguments(self):
        self.sheet.filled(two=(1, 1), one=(0, 0), source=(4, 5))
        self.assertEqual(self.sheet.rule((1, 0)), ("num", 45))
        self.assertEqual(self.sheet.rule((1, 2)), ("num", 12))


if __name__ == "__main__":
    unittest.main()
