"""Which places a rule needs."""

import unittest

from rulesheet.rules import needed

FAR = 10 ** 30
NUM = ("num", 0)


def at(row, column, row_stays=False, column_stays=False):
    return (row, column, row_stays, column_stays)


def cell(row, column):
    return ("cell", at(row, column))


# Each puts a rule into another one that needs nothing of its own but (9, 9) where it must name an area.
WRAPS = [
    (lambda rule: ("add", rule, NUM), []),
    (lambda rule: ("add", NUM, rule), []),
    (lambda rule: ("sub", rule, NUM), []),
    (lambda rule: ("sub", NUM, rule), []),
    (lambda rule: ("mul", rule, NUM), []),
    (lambda rule: ("mul", NUM, rule), []),
    (lambda rule: ("pick", rule, NUM, NUM), []),
    (lambda rule: ("pick", NUM, rule, NUM), []),
    (lambda rule: ("pick", NUM, NUM, rule), []),
    (lambda rule: ("look", rule, at(9, 9), at(9, 9), NUM), [(9, 9)]),
    (lambda rule: ("look", NUM, at(9, 9), at(9, 9), rule), [(9, 9)]),
]


class NeededTest(unittest.TestCase):
    def test_num_needs_nothing(self):
        for number in (0, 5, -1, 10 ** 40):
            self.assertEqual(needed(("num", number)), [])

    def test_cell_needs_its_place(self):
        for row_stays in (False, True):
            for column_stays in (False, True):
                self.assertEqual(needed(("cell", at(4, 7, row_stays, column_stays))), [(4, 7)])
        self.assertEqual(needed(cell(0, 0)), [(0, 0)])

    def test_two_rules_both_count(self):
        for form in ("add", "sub", "mul"):
            self.assertEqual(needed((form, NUM, NUM)), [])
            self.assertEqual(needed((form, cell(2, 0), cell(1, 5))), [(1, 5), (2, 0)])
            self.assertEqual(needed((form, cell(1, 5), cell(2, 0))), [(1, 5), (2, 0)])

    def test_pick_needs_both_ways(self):
        self.assertEqual(needed(("pick", cell(5, 1), cell(3, 2), cell(4, 3))), [(3, 2), (4, 3), (5, 1)])
        for first in (("num", 0), ("num", 1)):
            self.assertEqual(needed(("pick", first, cell(6, 0), cell(2, 2))), [(2, 2), (6, 0)])

    def test_sum_and_most_need_each_place_of_the_area(self):
        places = [(1, 2), (1, 3), (1, 4), (2, 2), (2, 3), (2, 4)]
        corners = [((1, 2), (2, 4)), ((2, 4), (1, 2)), ((1, 4), (2, 2)), ((2, 2), (1, 4))]
        for form in ("sum", "most"):
            for one, two in corners:
                self.assertEqual(needed((form, at(*one), at(*two, True, False))), places)
                self.assertEqual(needed((form, at(*one, False, True), at(*two, True, True))), places)
            self.assertEqual(needed((form, at(3, 3), at(3, 3))), [(3, 3)])
            self.assertEqual(needed((form, at(0, 2), at(0, 0))), [(0, 0), (0, 1), (0, 2)])
            self.assertEqual(needed((form, at(2, 0), at(0, 0))), [(0, 0), (1, 0), (2, 0)])

    def test_look_needs_all_of_its_area_and_both_rules(self):
        places = [(row, column) for row in (3, 4, 5) for column in (1, 2, 3, 4)]
        for one, two in [((3, 1), (5, 4)), ((5, 4), (3, 1)), ((3, 4), (5, 1)), ((5, 1), (3, 4))]:
            self.assertEqual(needed(("look", NUM, at(*one), at(*two), NUM)), places)
            rule = ("look", cell(8, 0), at(*one), at(*two), cell(0, 8))
            self.assertEqual(needed(rule), [(0, 8)] + places + [(8, 0)])

    def test_places_named_twice_are_told_once(self):
        self.assertEqual(needed(("add", cell(1, 1), cell(1, 1))), [(1, 1)])
        self.assertEqual(needed(("pick", cell(1, 1), cell(0, 1), cell(1, 1))), [(0, 1), (1, 1)])
        stays = ("sub", ("cell", at(1, 1, True, False)), ("cell", at(1, 1, False, True)))
        self.assertEqual(needed(stays), [(1, 1)])
        self.assertEqual(needed(("look", cell(0, 0), at(0, 0), at(0, 1), cell(0, 1))), [(0, 0), (0, 1)])

    def test_overlapping_areas(self):
        rule = ("mul", ("sum", at(0, 0), at(2, 2)), ("most", at(3, 3), at(1, 1)))
        self.assertEqual(
            needed(rule),
            [(0, 0), (0, 1), (0, 2), (1, 0), (1, 1), (1, 2), (1, 3),
             (2, 0), (2, 1), (2, 2), (2, 3), (3, 1), (3, 2), (3, 3)],
        )
        rule = ("look", ("sum", at(0, 1), at(2, 1)), at(1, 0), at(1, 2), ("cell", at(1, 1)))
        self.assertEqual(needed(rule), [(0, 1), (1, 0), (1, 1), (1, 2), (2, 1)])

    def test_order_is_by_row_then_column(self):
        rule = NUM
        named = [(2, 10), (10, 2), (2, 9), (-1, 5), (0, -3), (10, 0), (0, 11), (-2, 7)]
        for place in named:
            rule = ("add", rule, cell(*place))
        self.assertEqual(
            needed(rule),
            [(-2, 7), (-1, 5), (0, -3), (0, 11), (2, 9), (2, 10), (10, 0), (10, 2)],
        )

    def test_far_off_and_below_nought(self):
        self.assertEqual(needed(cell(-FAR, FAR)), [(-FAR, FAR)])
        rule = ("sub", cell(FAR, 0), ("sum", at(-FAR, FAR + 1), at(-FAR, FAR - 1)))
        self.assertEqual(needed(rule), [(-FAR, FAR - 1), (-FAR, FAR), (-FAR, FAR + 1), (FAR, 0)])
        self.assertEqual(needed(("most", at(-1, -1), at(0, -2))), [(-1, -2), (-1, -1), (0, -2), (0, -1)])

    def test_every_position_at_many_depths(self):
        for wrap, own in WRAPS:
            for leaf, places in [
                (cell(4, 2), [(4, 2)]),
                (("sum", at(1, 1), at(0, 1)), [(0, 1), (1, 1)]),
                (("most", at(1, 1), at(1, 2)), [(1, 1), (1, 2)]),
                (("look", cell(0, 5), at(2, 3), at(2, 2), cell(3, 0)), [(0, 5), (2, 2), (2, 3), (3, 0)]),
                (NUM, []),
            ]:
                rule = leaf
                for _ in range(15):
                    rule = wrap(rule)
                    self.assertEqual(needed(rule), places + own)

    def test_far_deeper_than_a_sheet_takes(self):
        for wrap, own in WRAPS:
            rule = cell(4, 2)
            for _ in range(5000):
                rule = wrap(rule)
            self.assertEqual(needed(rule), [(4, 2)] + own)

    def test_each_depth_adds_its_own_place(self):
        rule = cell(0, 0)
        for depth in range(1, 12):
            rule = ("pick", cell(depth, 2), rule, cell(depth, 1))
        places = [(0, 0)] + [(depth, column) for depth in range(1, 12) for column in (1, 2)]
        self.assertEqual(needed(rule), places)

    def test_places_are_tuples_of_two_whole_numbers(self):
        told = needed(("add", ("cell", at(1, 0, True, True)), ("sum", at(0, 1, True, False), at(0, 1))))
        self.assertIs(type(told), list)
        for place in told:
            self.assertIs(type(place), tuple)
            self.assertEqual([type(number) for number in place], [int, int])

    def test_what_is_told_is_the_askers_own(self):
        for rule, places in [
            (NUM, []),
            (cell(1, 2), [(1, 2)]),
            (("sum", at(0, 0), at(0, 1)), [(0, 0), (0, 1)]),
            (("add", cell(3, 3), cell(2, 2)), [(2, 2), (3, 3)]),
        ]:
            told = needed(rule)
            told.append("more")
            told.reverse()
            self.assertEqual(needed(rule), places)
            first, second = needed(rule), needed(rule)
            second.clear()
            self.assertEqual(first, places)

    def test_what_is_handed_in_is_not_changed(self):
        rule = ("look", ("cell", (1, 2, True, False)), (3, 4, False, True), (0, 0, True, True), ("num", -5))
        needed(rule)
        self.assertEqual(
            rule,
            ("look", ("cell", (1, 2, True, False)), (3, 4, False, True), (0, 0, True, True), ("num", -5)),
        )


if __name__ == "__main__":
    unittest.main()
