"""Rules that are shifted."""

import unittest

from rulesheet.rules import deep, needed, shifted

FAR = 10 ** 30
NUM = ("num", 3)
STAYS = [(False, False), (False, True), (True, False), (True, True)]
SHIFTS = [0, 1, 5, -1, -7, FAR, -FAR]
# Each puts a rule into another one, so that no position in which a rule can stand is left out.
# The rules beside it differ from each other, so that a mistaken order shows.
A = (8, 9, True, True)
B = (6, 7, True, True)
WRAPS = [
    lambda rule: ("add", rule, NUM),
    lambda rule: ("add", NUM, rule),
    lambda rule: ("sub", rule, NUM),
    lambda rule: ("sub", NUM, rule),
    lambda rule: ("mul", rule, NUM),
    lambda rule: ("mul", NUM, rule),
    lambda rule: ("pick", rule, NUM, ("num", 4)),
    lambda rule: ("pick", NUM, rule, ("num", 4)),
    lambda rule: ("pick", NUM, ("num", 4), rule),
    lambda rule: ("look", rule, A, B, NUM),
    lambda rule: ("look", NUM, A, B, rule),
]


def free(row, column):
    return (row, column, False, False)


def cell(row, column):
    return ("cell", free(row, column))


def grown(row, column, stays, down, right):
    """The reference that the document asks for, told case by case."""
    return {
        (False, False): (row + down, column + right, False, False),
        (False, True): (row + down, column, False, True),
        (True, False): (row, column + right, True, False),
        (True, True): (row, column, True, True),
    }[stays]


class ShiftedTest(unittest.TestCase):
    def test_num_stays_as_it_is(self):
        for number in (0, 7, -7, 10 ** 9, 10 ** 40, -(10 ** 40)):
            for down in SHIFTS:
                for right in SHIFTS:
                    self.assertEqual(shifted(("num", number), down, right), ("num", number))

    def test_cell_by_hand(self):
        self.assertEqual(shifted(("cell", (2, 3, False, False)), 10, 100), ("cell", (12, 103, False, False)))
        self.assertEqual(shifted(("cell", (2, 3, True, False)), 10, 100), ("cell", (2, 103, True, False)))
        self.assertEqual(shifted(("cell", (2, 3, False, True)), 10, 100), ("cell", (12, 3, False, True)))
        self.assertEqual(shifted(("cell", (2, 3, True, True)), 10, 100), ("cell", (2, 3, True, True)))
        self.assertEqual(shifted(("cell", (2, 3, False, False)), -5, -1), ("cell", (-3, 2, False, False)))

    def test_cell_in_each_way(self):
        for stays in STAYS:
            for down in SHIFTS:
                for right in SHIFTS:
                    rule = ("cell", (2, -3) + stays)
                    wanted = ("cell", grown(2, -3, stays, down, right))
                    self.assertEqual(shifted(rule, down, right), wanted)

    def test_two_references_in_each_way(self):
        for one in STAYS:
            for two in STAYS:
                for down, right in [(0, 0), (1, 0), (0, 1), (3, -8), (-8, 3), (FAR, -FAR), (-FAR, FAR)]:
                    first, last = (5, 6) + one, (1, 9) + two
                    moved = (grown(5, 6, one, down, right), grown(1, 9, two, down, right))
                    for form in ("sum", "most"):
                        self.assertEqual(shifted((form, first, last), down, right), (form,) + moved)
                    rule = ("look", ("cell", first), first, last, ("cell", last))
                    wanted = ("look", ("cell", moved[0])) + moved + (("cell", moved[1]),)
                    self.assertEqual(shifted(rule, down, right), wanted)

    def test_corners_are_not_put_in_order(self):
        rule = ("sum", (4, 4, True, True), (0, 0, False, False))
        self.assertEqual(shifted(rule, 9, 9), ("sum", (4, 4, True, True), (9, 9, False, False)))
        self.assertEqual(shifted(rule, 0, 0), rule)

    def test_forms_with_rules_within(self):
        for form in ("add", "sub", "mul"):
            self.assertEqual(shifted((form, cell(1, 2), cell(3, 4)), 1, -1), (form, cell(2, 1), cell(4, 3)))
            self.assertEqual(shifted((form, cell(1, 2), NUM), 1, -1), (form, cell(2, 1), NUM))
            self.assertEqual(shifted((form, NUM, cell(1, 2)), 1, -1), (form, NUM, cell(2, 1)))
        rule = ("pick", cell(1, 2), cell(3, 4), cell(5, 6))
        self.assertEqual(shifted(rule, 10, 20), ("pick", cell(11, 22), cell(13, 24), cell(15, 26)))
        rule = ("look", cell(1, 2), free(3, 4), free(5, 6), cell(7, 8))
        wanted = ("look", cell(11, 22), free(13, 24), free(15, 26), cell(17, 28))
        self.assertEqual(shifted(rule, 10, 20), wanted)

    def test_every_position_at_many_depths(self):
        for wrap in WRAPS:
            for leaf, wanted in [
                (cell(1, 1), cell(-3, 10)),
                (("sum", free(1, 1), (2, 2, True, False)), ("sum", free(-3, 10), (2, 11, True, False))),
                (("most", (1, 1, False, True), free(2, 2)), ("most", (-3, 1, False, True), free(-2, 11))),
                (
                    ("look", cell(1, 1), free(2, 2), free(3, 3), cell(4, 4)),
                    ("look", cell(-3, 10), free(-2, 11), free(-1, 12), cell(0, 13)),
                ),
                (NUM, NUM),
            ]:
                for _ in range(15):
                    leaf, wanted = wrap(leaf), wrap(wanted)
                    self.assertEqual(shifted(leaf, -4, 9), wanted)

    def test_positions_within_each_other(self):
        for outer in WRAPS:
            for inner in WRAPS:
                self.assertEqual(shifted(outer(inner(cell(1, 2))), 3, 4), outer(inner(cell(4, 6))))

    def test_rules_side_by_side_keep_their_order(self):
        def tree(depth, row, column):
            if depth == 1:
                return cell(row, column)
            inner = [tree(depth - 1, row, column + 100 ** depth * k) for k in (1, 2, 3)]
            if depth % 2:
                return ("pick", inner[0], inner[1], inner[2])
            return ("look", inner[0], free(row, column), free(row + 1, column), ("sub", inner[1], inner[2]))

        for depth in range(1, 6):
            self.assertEqual(shifted(tree(depth, 0, 0), 7, -2), tree(depth, 7, -2))

    def test_far_deeper_than_a_sheet_takes(self):
        for wrap in WRAPS:
            rule = cell(1, 2)
            for _ in range(5000):
                rule = wrap(rule)
            told = shifted(rule, 3, -4)
            self.assertEqual(deep(told), 5001)
            self.assertIn((4, -2), needed(told))
            self.assertNotIn((1, 2), needed(told))

    def test_by_nought_all_is_as_it_was(self):
        for stays in STAYS:
            rule = ("look", ("cell", (0, 0) + stays), (1, 1) + stays, (-1, -1) + stays, ("num", -9))
            self.assertEqual(shifted(rule, 0, 0), rule)

    def test_there_and_back_again(self):
        for stays in STAYS:
            rule = (
                "pick",
                ("sub", ("cell", (0, 5) + stays), ("num", 2)),
                ("sum", (1, 1) + stays, free(-3, FAR)),
                ("look", ("most", free(2, 2), (3, 3) + stays), free(0, 0), (1, 4) + stays, NUM),
            )
            for down in SHIFTS:
                for right in SHIFTS:
                    self.assertEqual(shifted(shifted(rule, down, right), -down, -right), rule)

    def test_rows_and_columns_grow_apart_from_each_other(self):
        rule = ("add", cell(0, 0), ("cell", (5, 5, True, False)))
        self.assertEqual(shifted(rule, 2, 0), ("add", cell(2, 0), ("cell", (5, 5, True, False))))
        self.assertEqual(shifted(rule, 0, 2), ("add", cell(0, 2), ("cell", (5, 7, True, False))))

    def test_very_large_numbers_are_exact(self):
        self.assertEqual(shifted(cell(FAR, -FAR), FAR + 1, 1), cell(2 * FAR + 1, 1 - FAR))

    def test_kinds_of_what_is_told(self):
        told = shifted(("look", cell(1, 2), (3, 4, True, False), free(5, 6), NUM), 1, 1)
        self.assertEqual([type(part) for part in told], [str, tuple, tuple, tuple, tuple])
        self.assertEqual([type(part) for part in told[2]], [int, int, bool, bool])
        self.assertEqual([type(part) for part in told[1]], [str, tuple])
        self.assertEqual([type(part) for part in told[1][1]], [int, int, bool, bool])

    def test_what_is_handed_in_is_not_changed(self):
        rule = ("look", cell(1, 2), (3, 4, False, True), (0, 0, True, True), ("sum", free(5, 5), free(6, 6)))
        told = shifted(rule, 1, 1)
        shifted(told, 5, 5)
        self.assertEqual(
            rule,
            (
                "look",
                ("cell", (1, 2, False, False)),
                (3, 4, False, True),
                (0, 0, True, True),
                ("sum", (5, 5, False, False), (6, 6, False, False)),
            ),
        )
        self.assertEqual(
            told,
            (
                "look",
                ("cell", (2, 3, False, False)),
                (4, 4, False, True),
                (0, 0, True, True),
                ("sum", (6, 6, False, False), (7, 7, False, False)),
            ),
        )
        self.assertEqual(shifted(rule, 1, 1), told)


if __name__ == "__main__":
    unittest.main()
