"""What each form of a rule tells by known values."""

import unittest

from rulesheet.reckon import told
from rulesheet.rules import needed

MANY = 1000000000
TOP = MANY - 1
FAR = 10 ** 40
STAYS = [(False, False), (False, True), (True, False), (True, True)]
NUM = ("num", 7)


def at(row, column):
    return (row, column, False, False)


def cell(row, column):
    return ("cell", at(row, column))


def num(number):
    return ("num", number)


def grid(rows, top=0, left=0):
    """The values of an area, whose upper left place is told, by their places."""
    return {(top + down, left + right): value for down, row in enumerate(rows) for right, value in enumerate(row)}


def orders(top, left, bottom, right):
    """The two corners of an area in each of their orders."""
    return [
        (at(top, left), at(bottom, right)),
        (at(bottom, right), at(top, left)),
        (at(top, right), at(bottom, left)),
        (at(bottom, left), at(top, right)),
    ]


class TellingTest(unittest.TestCase):
    def tells(self, rule, values, wanted):
        """With nothing known but what the rule needs, and with all known."""
        known = {place: values[place] for place in needed(rule)}
        before = dict(known)
        got = told(rule, known)
        self.assertEqual(got, wanted)
        self.assertIs(type(got), int)
        self.assertEqual(known, before)
        self.assertEqual(told(rule, values), wanted)


class FormsTest(TellingTest):
    def test_num(self):
        for number in (0, 1, 7, 999999998, TOP):
            self.tells(num(number), {}, number)

    def test_num_beyond_and_below(self):
        for number, wanted in [
            (MANY, 0),
            (MANY + 1, 1),
            (2 * MANY - 1, TOP),
            (12345678901, 345678901),
            (FAR + 5, 5),
            (-1, TOP),
            (-2, 999999998),
            (-MANY, 0),
            (-MANY - 1, TOP),
            (1 - MANY, 1),
            (-FAR, 0),
            (-FAR - 3, 999999997),
            (10 ** 6000 + 8, 8),
        ]:
            self.tells(num(number), {}, wanted)

    def test_cell(self):
        values = grid([[1, 2], [3, TOP], [0, 6]])
        for place, value in values.items():
            for stays in STAYS:
                self.tells(("cell", place + stays), values, value)

    def test_cell_of_a_place_anywhere(self):
        self.tells(cell(-4, 90), {(-4, 90): 8}, 8)

    def test_add(self):
        self.tells(("add", num(3), num(4)), {}, 7)
        self.tells(("add", num(0), num(0)), {}, 0)
        self.tells(("add", num(TOP), num(0)), {}, TOP)
        self.tells(("add", num(TOP), num(1)), {}, 0)
        self.tells(("add", num(TOP), num(TOP)), {}, 999999998)
        self.tells(("add", num(-1), num(-1)), {}, 999999998)
        self.tells(("add", cell(0, 1), cell(2, 0)), {(0, 1): 600000000, (2, 0): 500000001}, 100000001)

    def test_sub(self):
        self.tells(("sub", num(9), num(4)), {}, 5)
        self.tells(("sub", num(4), num(9)), {}, 999999995)
        self.tells(("sub", num(4), num(4)), {}, 0)
        self.tells(("sub", num(0), num(1)), {}, TOP)
        self.tells(("sub", num(0), num(TOP)), {}, 1)
        self.tells(("sub", num(TOP), num(0)), {}, TOP)
        self.tells(("sub", num(-1), num(MANY + 1)), {}, 999999998)
        self.tells(("sub", cell(0, 1), cell(2, 0)), {(0, 1): 5, (2, 0): 8}, 999999997)

    def test_mul(self):
        self.tells(("mul", num(6), num(7)), {}, 42)
        self.tells(("mul", num(0), num(TOP)), {}, 0)
        self.tells(("mul", num(1), num(TOP)), {}, TOP)
        self.tells(("mul", num(TOP), num(TOP)), {}, 1)
        self.tells(("mul", num(100000), num(10000)), {}, 0)
        self.tells(("mul", num(123456789), num(987654321)), {}, 123456789 * 987654321 % MANY)
        self.tells(("mul", num(-1), num(3)), {}, 999999997)
        self.tells(("mul", cell(0, 1), cell(2, 0)), {(0, 1): 31623, (2, 0): 31623}, 14129)

    def test_pick(self):
        for first in (1, 2, TOP, -1, MANY + 1):
            self.tells(("pick", num(first), num(5), num(6)), {}, 5)
        for first in (0, MANY, -MANY, FAR):
            self.tells(("pick", num(first), num(5), num(6)), {}, 6)

    def test_pick_by_what_is_reckoned(self):
        rule = ("pick", ("sub", cell(0, 0), cell(0, 1)), cell(1, 0), cell(1, 1))
        self.tells(rule, {(0, 0): 4, (0, 1): 4, (1, 0): 10, (1, 1): 11}, 11)
        self.tells(rule, {(0, 0): 4, (0, 1): 3, (1, 0): 10, (1, 1): 11}, 10)
        self.tells(rule, {(0, 0): 3, (0, 1): 4, (1, 0): 10, (1, 1): 11}, 10)
        # A sum that is brought to nought by its rest is nought.
        self.tells(("pick", ("add", num(TOP), num(1)), num(5), num(6)), {}, 6)
        self.tells(("pick", ("mul", num(50000), num(20000)), num(5), num(6)), {}, 6)

    def test_pick_tells_its_values_whole(self):
        self.tells(("pick", num(1), num(0), num(6)), {}, 0)
        self.tells(("pick", num(0), num(5), num(0)), {}, 0)
        self.tells(("pick", num(1), num(-1), num(6)), {}, TOP)
        self.tells(("pick", num(0), num(5), num(MANY + 9)), {}, 9)

    def test_sum(self):
        values = grid([[1, 20, 300], [4000, 50000, 600000]])
        for one, two in orders(0, 0, 1, 2):
            self.tells(("sum", one, two), values, 654321)
        for one, two in orders(0, 1, 1, 2):
            self.tells(("sum", one, two), values, 650320)
        for one, two in orders(1, 0, 1, 1):
            self.tells(("sum", one, two), values, 54000)
        for one, two in orders(0, 2, 1, 2):
            self.tells(("sum", one, two), values, 600300)
        self.tells(("sum", at(1, 1), at(1, 1)), values, 50000)

    def test_sum_beyond(self):
        self.tells(("sum", at(0, 0), at(0, 1)), grid([[TOP, 1]]), 0)
        self.tells(("sum", at(0, 0), at(0, 2)), grid([[TOP, TOP, TOP]]), 999999997)
        values = grid([[TOP] * 12] * 12)
        self.tells(("sum", at(11, 11), at(0, 0)), values, MANY - 144)

    def test_most(self):
        for row in range(2):
            for column in range(3):
                rows = [[5, 0, 7], [3, 8, 1]]
                rows[row][column] = 20
                for one, two in orders(0, 0, 1, 2):
                    self.tells(("most", one, two), grid(rows), 20)
        values = grid([[5, 9, 7], [3, 8, 1]])
        for one, two in orders(1, 0, 1, 2):
            self.tells(("most", one, two), values, 8)
        for one, two in orders(0, 2, 1, 2):
            self.tells(("most", one, two), values, 7)
        self.tells(("most", at(1, 2), at(1, 2)), values, 1)

    def test_most_at_the_ends_of_values(self):
        self.tells(("most", at(0, 0), at(1, 1)), grid([[0, 0], [0, 0]]), 0)
        self.tells(("most", at(0, 0), at(1, 1)), grid([[TOP, 0], [999999998, TOP]]), TOP)

    def test_areas_may_have_mixed_stays(self):
        values = grid([[1, 2], [3, 4]])
        for one in STAYS:
            for two in STAYS:
                self.tells(("sum", (1, 0) + one, (0, 1) + two), values, 10)
                self.tells(("most", (1, 0) + one, (0, 1) + two), values, 4)
                self.tells(("look", num(3), (1, 0) + one, (0, 1) + two, num(9)), values, 4)

    def test_areas_anywhere(self):
        values = grid([[1, 2], [3, 4]], -1, 50)
        for one, two in orders(-1, 50, 0, 51):
            self.tells(("sum", one, two), values, 10)
            self.tells(("most", one, two), values, 4)
            self.tells(("look", num(3), one, two, num(9)), values, 4)


class LookTest(TellingTest):
    def looks(self, sought, corners, values, otherwise, wanted):
        for one, two in orders(*corners):
            self.tells(("look", num(sought), one, two, num(otherwise)), values, wanted)

    def test_the_first_a_later_the_last_and_no_row(self):
        values = grid([[11, 0, 21], [12, 0, 22], [13, 0, 23], [14, 0, 24]])
        for sought, wanted in [(11, 21), (12, 22), (13, 23), (14, 24), (15, 99), (0, 99), (21, 99), (24, 99)]:
            self.looks(sought, (0, 0, 3, 2), values, 99, wanted)

    def test_the_first_of_several_rows(self):
        values = grid([[5, 1], [6, 2], [6, 3], [5, 4], [6, 5]])
        self.looks(5, (0, 0, 4, 1), values, 99, 1)
        self.looks(6, (0, 0, 4, 1), values, 99, 2)
        self.looks(5, (1, 0, 4, 1), values, 99, 4)
        self.looks(6, (2, 0, 4, 1), values, 99, 3)

    def test_the_middle_columns_do_not_count(self):
        values = grid([[1, 7, 7, 2], [7, 1, 3, 4], [5, 7, 7, 6]])
        self.looks(7, (0, 0, 2, 3), values, 99, 4)
        self.looks(3, (0, 0, 2, 3), values, 99, 99)
        self.looks(7, (0, 1, 2, 3), values, 99, 2)
        self.looks(7, (0, 0, 2, 1), values, 99, 1)

    def test_one_column_is_the_first_and_the_last(self):
        values = grid([[4], [5], [6]])
        self.looks(5, (0, 0, 2, 0), values, 99, 5)
        self.looks(7, (0, 0, 2, 0), values, 99, 99)

    def test_one_row(self):
        values = grid([[4, 5, 6]])
        self.looks(4, (0, 0, 0, 2), values, 99, 6)
        self.looks(6, (0, 0, 0, 2), values, 99, 99)
        self.looks(5, (0, 1, 0, 2), values, 99, 6)

    def test_one_place(self):
        self.looks(4, (2, 2, 2, 2), {(2, 2): 4}, 99, 4)
        self.looks(5, (2, 2, 2, 2), {(2, 2): 4}, 99, 99)

    def test_nought_is_found_and_told(self):
        values = grid([[1, 8], [0, 9], [3, 0]])
        self.looks(0, (0, 0, 2, 1), values, 99, 9)
        self.looks(3, (0, 0, 2, 1), values, 99, 0)
        self.looks(4, (0, 0, 2, 1), values, 0, 0)

    def test_what_is_sought_is_a_rest(self):
        values = grid([[TOP, 8], [5, 9]])
        self.looks(-1, (0, 0, 1, 1), values, 99, 8)
        self.looks(MANY + 5, (0, 0, 1, 1), values, 99, 9)
        self.looks(7, (0, 0, 1, 1), values, -3, 999999997)

    def test_rules_within(self):
        values = grid([[1, 8, 2], [5, 9, 6]])
        rule = ("look", ("add", cell(0, 0), cell(0, 2)), at(1, 2), at(0, 0), ("mul", cell(1, 0), cell(1, 1)))
        self.tells(rule, values, 45)
        values[(0, 2)] = 4
        self.tells(rule, values, 6)
        values[(0, 0)] = 5
        values[(0, 2)] = 0
        self.tells(rule, values, 0)


class DeepRulesTest(TellingTest):
    def test_rules_within_each_other(self):
        values = grid([[2, 3], [5, 7]])
        total = ("sum", at(0, 0), at(1, 1))
        most = ("most", at(1, 1), at(0, 0))
        rule = ("sub", ("mul", total, most), ("add", ("mul", cell(0, 0), cell(0, 1)), cell(1, 0)))
        self.tells(rule, values, 17 * 7 - 11)
        self.tells(("pick", ("sub", total, num(17)), rule, ("add", rule, rule)), values, 216)
        self.tells(("pick", ("sub", total, num(16)), rule, ("add", rule, rule)), values, 108)

    def test_the_order_of_rules_is_kept_at_each_depth(self):
        rule, wanted = num(1), 1
        for depth in range(2, 20):
            rule = ("sub", num(3 * depth), rule)
            wanted = (3 * depth - wanted) % MANY
            self.tells(rule, {}, wanted)
            rule = ("sub", rule, ("mul", num(depth), num(2)))
            wanted = (wanted - 2 * depth) % MANY
            self.tells(rule, {}, wanted)

    def test_the_rest_is_taken_at_each_depth(self):
        rule, wanted = num(7), 7
        for _ in range(100):
            rule = ("mul", rule, num(-987654321))
            wanted = wanted * -987654321 % MANY
            self.tells(rule, {}, wanted)

    def test_far_deeper_than_a_sheet_takes(self):
        left, right, way = num(0), num(0), cell(0, 0)
        for _ in range(5000):
            left = ("add", left, num(1))
            right = ("sub", num(1), right)
            way = ("pick", num(0), num(5), way)
        self.tells(left, {}, 5000)
        self.tells(right, {}, 0)
        self.tells(way, {(0, 0): 4}, 4)

    def test_nothing_told_before_is_remembered(self):
        rule = ("add", cell(0, 0), cell(0, 1))
        known = {(0, 0): 1, (0, 1): 2}
        self.assertEqual(told(rule, known), 3)
        known[(0, 0)] = 10
        self.assertEqual(told(rule, known), 12)
        self.assertEqual(told(rule, {(0, 0): 5, (0, 1): 5}), 10)
        self.assertEqual(told(rule, known), 12)

    def test_by_the_names_of_the_arguments(self):
        self.assertEqual(told(known={(0, 0): 6}, rule=cell(0, 0)), 6)

    def test_a_known_number_beyond_counts_by_its_rest(self):
        known = {(0, 0): MANY, (0, 1): -1, (0, 2): 7, (0, 3): MANY + 8}
        self.assertEqual(told(cell(0, 0), known), 0)
        self.assertEqual(told(cell(0, 1), known), TOP)
        self.assertEqual(told(("pick", cell(0, 0), num(1), num(2)), known), 2)
        self.assertEqual(told(("sum", at(0, 0), at(0, 3)), known), 14)
        self.assertEqual(told(("most", at(0, 2), at(0, 3)), known), 8)
        self.assertEqual(told(("most", at(0, 0), at(0, 2)), {**known, (0, 1): MANY + 1}), 7)
        self.assertEqual(told(("look", num(0), at(0, 0), at(0, 3), num(9)), known), 8)


if __name__ == "__main__":
    unittest.main()
