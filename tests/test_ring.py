"""Rings: which one is told, and where there is none."""

import unittest

from rulesheet.reckon import reckoned, ring
from rulesheet.rules import needed
from rulesheet.sheet import Sheet


def at(row, column):
    return (row, column, False, False)


def cell(row, column):
    return ("cell", at(row, column))


def num(number):
    return ("num", number)


def turned(places):
    """A ring from its least place on, so that where it begins does not count."""
    first = places.index(min(places))
    return places[first:] + places[:first]


class RingTest(unittest.TestCase):
    def is_ring(self, sheet, told):
        """Holds a told ring against the rules, place by place."""
        self.assertIs(type(told), list)
        self.assertGreater(len(told), 0)
        self.assertEqual(len(set(told)), len(told))
        for place, needs in zip(told, told[1:] + told[:1]):
            self.assertIs(type(place), tuple)
            self.assertEqual([type(number) for number in place], [int, int])
            self.assertIn(needs, needed(sheet.rule(place)))
        values = reckoned(sheet)
        for row, column in told:
            self.assertIsNone(values[row][column])

    def only_ring(self, sheet, wanted):
        told = ring(sheet)
        self.is_ring(sheet, told)
        self.assertEqual(turned(told), turned(wanted))

    def test_none_where_there_is_none(self):
        self.assertIsNone(ring(Sheet(1, 1)))
        self.assertIsNone(ring(Sheet(12, 12)))
        sheet = Sheet(12, 12)
        places = sheet.places()
        for before, place in zip(places, places[1:]):
            sheet.put(place, ("add", cell(*before), cell(0, 0)))
        self.assertIsNone(ring(sheet))
        sheet.put((0, 0), num(3))
        self.assertIsNone(ring(sheet))

    def test_a_need_by_two_ways_is_no_ring(self):
        sheet = Sheet(2, 2)
        sheet.put((0, 1), cell(0, 0))
        sheet.put((1, 0), cell(0, 0))
        sheet.put((1, 1), ("add", cell(0, 1), cell(1, 0)))
        self.assertIsNone(ring(sheet))

    def test_of_one_cell(self):
        for place in Sheet(3, 4).places():
            for rule in [cell(*place), ("add", num(1), cell(*place)), ("sum", at(0, 0), at(2, 3))]:
                sheet = Sheet(3, 4)
                sheet.put(place, rule)
                self.only_ring(sheet, [place])

    def test_of_two_cells(self):
        for one in Sheet(3, 3).places():
            for two in Sheet(3, 3).places():
                if one != two:
                    sheet = Sheet(3, 3)
                    sheet.put(one, cell(*two))
                    sheet.put(two, ("mul", num(0), cell(*one)))
                    self.only_ring(sheet, [one, two])

    def test_of_three_cells_in_both_directions(self):
        for way in [[(0, 0), (0, 1), (1, 1)], [(0, 0), (1, 1), (0, 1)]]:
            sheet = Sheet(2, 2)
            for place, needs in zip(way, way[1:] + way[:1]):
                sheet.put(place, cell(*needs))
            self.only_ring(sheet, way)

    def test_of_all_cells(self):
        places = Sheet(12, 12).places()
        stepped = [places[k * 89 % 144] for k in range(144)]
        for way in [places, places[::-1], stepped]:
            sheet = Sheet(12, 12)
            for place, needs in zip(way, way[1:] + way[:1]):
                sheet.put(place, cell(*needs))
            self.only_ring(sheet, way)

    def test_what_comes_to_a_ring_is_no_part_of_it(self):
        # A long row of cells leads to the ring from its first place on, and another one away from it.
        sheet = Sheet(12, 12)
        places = sheet.places()
        for place, needs in zip(places, places[1:]):
            sheet.put(place, cell(*needs))
        sheet.put(places[90], ("add", cell(*places[91]), cell(*places[88])))
        self.only_ring(sheet, places[88:91])

    def test_a_way_that_leads_on_from_the_ring(self):
        # Each place of the ring needs one that comes to no ring, before and behind the ring's next one.
        sheet = Sheet(3, 3)
        way = [(1, 0), (1, 1), (1, 2)]
        for place, needs in zip(way, way[1:] + way[:1]):
            rule = ("pick", cell(0, place[1]), cell(*needs), cell(2, place[1]))
            sheet.put(place, rule)
        sheet.put((0, 0), cell(0, 1))
        sheet.put((2, 2), cell(2, 1))
        self.only_ring(sheet, way)

    def test_by_way_of_what_the_value_does_not_hang_on(self):
        for rule in [
            ("pick", num(1), num(5), cell(2, 2)),
            ("pick", num(0), cell(2, 2), num(5)),
            ("look", num(0), at(0, 0), at(0, 1), cell(2, 2)),
            ("look", num(0), at(0, 0), at(2, 2), num(5)),
            ("look", num(0), at(2, 1), at(2, 3), num(5)),
        ]:
            sheet = Sheet(3, 4)
            sheet.put((0, 3), rule)
            sheet.put((2, 2), cell(0, 3))
            if (0, 3) in needed(rule):
                self.is_ring(sheet, ring(sheet))
            else:
                self.only_ring(sheet, [(0, 3), (2, 2)])

    def test_one_of_several(self):
        sheet = Sheet(4, 4)
        rings = [[(0, 1), (2, 3)], [(1, 1)], [(3, 0), (3, 2), (0, 3)]]
        for way in rings:
            for place, needs in zip(way, way[1:] + way[:1]):
                sheet.put(place, cell(*needs))
        for _ in range(3):
            told = ring(sheet)
            self.is_ring(sheet, told)
            self.assertIn(turned(told), [turned(way) for way in rings])
            sheet.put(told[0], num(1))
        self.assertIsNone(ring(sheet))

    def test_where_all_cells_need_all_cells(self):
        sheet = Sheet(12, 12)
        for place in sheet.places():
            sheet.put(place, ("sum", at(0, 0), at(11, 11)))
        self.is_ring(sheet, ring(sheet))

    def test_rings_that_share_places(self):
        sheet = Sheet(1, 4)
        sheet.put((0, 0), cell(0, 1))
        sheet.put((0, 1), ("add", cell(0, 2), cell(0, 3)))
        sheet.put((0, 2), cell(0, 0))
        sheet.put((0, 3), cell(0, 0))
        told = ring(sheet)
        self.is_ring(sheet, told)
        self.assertEqual(len(told), 3)

    def test_after_another_rule_is_put(self):
        sheet = Sheet(2, 2)
        self.assertIsNone(ring(sheet))
        sheet.put((0, 0), cell(1, 1))
        self.assertIsNone(ring(sheet))
        sheet.put((1, 1), cell(0, 0))
        self.only_ring(sheet, [(0, 0), (1, 1)])
        sheet.put((0, 0), cell(0, 1))
        self.assertIsNone(ring(sheet))
        sheet.filled((0, 0), (0, 0), (1, 0))
        sheet.put((0, 1), cell(0, 0))
        self.only_ring(sheet, [(0, 0), (0, 1)])

    def test_what_was_told_is_the_askers_own(self):
        sheet = Sheet(2, 2)
        sheet.put((0, 0), cell(1, 1))
        sheet.put((1, 1), cell(0, 0))
        first, again = ring(sheet), ring(sheet)
        again.clear()
        self.only_ring(sheet, [(0, 0), (1, 1)])
        self.is_ring(sheet, first)
        kept = list(first)
        sheet.put((1, 1), num(4))
        self.assertEqual(first, kept)
        self.assertIsNone(ring(sheet))

    def test_a_second_sheet_stays_as_it_was(self):
        one, two = Sheet(2, 2), Sheet(2, 2)
        one.put((0, 0), cell(0, 0))
        self.assertIsNone(ring(two))
        self.only_ring(one, [(0, 0)])

    def test_asking_changes_no_rule(self):
        sheet = Sheet(2, 2)
        sheet.put((0, 0), cell(0, 1))
        sheet.put((0, 1), cell(0, 0))
        ring(sheet)
        rules = [sheet.rule(place) for place in sheet.places()]
        self.assertEqual(rules, [cell(0, 1), cell(0, 0), num(0), num(0)])


if __name__ == "__main__":
    unittest.main()
