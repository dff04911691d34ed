"""Rules that are put: what is taken, what is refused, in which order, and that nothing is changed then."""

import unittest

from rulesheet.errors import OffSheet, TooDeep
from rulesheet.reckon import reckoned
from rulesheet.sheet import Sheet

FAR = 10 ** 30
# Python writes out no number this long unless it is told to.
ENDLESS = 10 ** 5000
STAYS = [(False, False), (False, True), (True, False), (True, True)]
NUM = ("num", 1)
ON = (0, 0, False, False)
# Each puts a rule into another one, so that no position in which a rule can stand is left out.
WRAPS = [
    lambda rule: ("add", rule, NUM),
    lambda rule: ("add", NUM, rule),
    lambda rule: ("sub", rule, NUM),
    lambda rule: ("sub", NUM, rule),
    lambda rule: ("mul", rule, NUM),
    lambda rule: ("mul", NUM, rule),
    lambda rule: ("pick", rule, NUM, NUM),
    lambda rule: ("pick", NUM, rule, NUM),
    lambda rule: ("pick", NUM, NUM, rule),
    lambda rule: ("look", rule, ON, ON, NUM),
    lambda rule: ("look", NUM, ON, ON, rule),
]


def with_reference(reference):
    """The rules that have that reference, in each position in which a reference can stand."""
    return [
        ("cell", reference),
        ("sum", reference, ON),
        ("sum", ON, reference),
        ("most", reference, ON),
        ("most", ON, reference),
        ("look", NUM, reference, ON, NUM),
        ("look", NUM, ON, reference, NUM),
    ]


def wrapped(wrap, rule, times):
    for _ in range(times):
        rule = wrap(rule)
    return rule


def off_numbers(many):
    return [-ENDLESS, -FAR, -many - 1, -many, -1, many, many + 1, 2 * many, FAR, ENDLESS]


def off_references(high, wide):
    """References off a sheet of that size, by the row, by the column, by both."""
    places = [(row, column) for row in off_numbers(high) for column in (0, wide - 1)]
    places += [(row, column) for row in (0, high - 1) for column in off_numbers(wide)]
    places += [(-1, -1), (high, wide), (-1, wide), (high, -1)]
    return [place + stays for place in places for stays in STAYS]


class PutTest(unittest.TestCase):
    def setUp(self):
        self.sheet = Sheet(3, 5)
        for place in self.sheet.places():
            self.sheet.put(place, ("num", 10 * place[0] + place[1]))

    def rules(self):
        return [self.sheet.rule(place) for place in self.sheet.places()]

    def refused(self, kind, place, rule):
        before = self.rules()
        with self.assertRaises(kind):
            self.sheet.put(place, rule)
        self.assertEqual(self.rules(), before)
        self.assertEqual((self.sheet.high, self.sheet.wide), (3, 5))

    def test_it_tells_none_and_the_place_has_the_rule(self):
        rule = ("add", ("cell", (1, 1, True, False)), ("num", -5))
        self.assertIsNone(self.sheet.put((0, 0), rule))
        self.assertEqual(self.sheet.rule((0, 0)), rule)

    def test_only_that_place_has_it(self):
        for target in self.sheet.places():
            before = {place: self.sheet.rule(place) for place in self.sheet.places()}
            self.sheet.put(target, ("num", -1))
            before[target] = ("num", -1)
            self.assertEqual({place: self.sheet.rule(place) for place in self.sheet.places()}, before)

    def test_the_last_rule_put_counts(self):
        self.sheet.put((2, 4), ("num", 7))
        self.sheet.put((2, 4), ("cell", ON))
        self.assertEqual(self.sheet.rule((2, 4)), ("cell", ON))
        self.sheet.put((2, 4), ("num", 0))
        self.assertEqual(self.sheet.rule((2, 4)), ("num", 0))

    def test_by_the_names_of_the_arguments(self):
        self.sheet.put(rule=("num", 3), place=(0, 1))
        self.assertEqual(self.sheet.rule(place=(0, 1)), ("num", 3))

    def test_a_rule_is_kept_as_it_was_handed_in(self):
        for rule in [
            ("num", 10 ** 12),
            ("num", -3),
            ("sum", (2, 4, True, False), (0, 0, False, True)),
            ("look", ("num", 1), (2, 0, True, True), (0, 4, False, False), ("cell", (1, 1, True, False))),
        ]:
            self.sheet.put((1, 1), rule)
            self.assertEqual(self.sheet.rule((1, 1)), rule)

    def test_each_place_of_the_sheet_may_be_named(self):
        for place in self.sheet.places():
            for stays in STAYS:
                for rule in with_reference(place + stays):
                    self.sheet.put((1, 2), rule)
                    self.assertEqual(self.sheet.rule((1, 2)), rule)

    def test_a_place_off_the_sheet(self):
        for reference in off_references(3, 5):
            self.refused(OffSheet, reference[:2], ("num", 1))

    def test_a_reference_off_the_sheet(self):
        for reference in off_references(3, 5):
            for rule in with_reference(reference):
                self.refused(OffSheet, (1, 1), rule)

    def test_both_references_off_the_sheet(self):
        for form in ("sum", "most"):
            self.refused(OffSheet, (0, 0), (form, (-1, -1, False, False), (3, 5, False, False)))
            self.refused(OffSheet, (0, 0), (form, (-FAR, -FAR, True, True), (FAR, FAR, True, True)))

    def test_rows_and_columns_are_not_taken_for_each_other(self):
        self.sheet.put((2, 4), ("cell", (2, 4, False, False)))
        self.refused(OffSheet, (4, 2), ("num", 1))
        self.refused(OffSheet, (0, 0), ("cell", (4, 2, False, False)))

    def test_a_reference_off_the_sheet_within_a_deep_rule(self):
        for wrap in WRAPS:
            for times in range(1, 8):
                for rule in with_reference((3, 0, True, True)) + with_reference((0, -1, False, False)):
                    if times == 7 and rule[0] == "look":
                        continue
                    self.refused(OffSheet, (1, 1), wrapped(wrap, rule, times))

    def test_eight_deep_is_taken(self):
        for wrap in WRAPS:
            for times in range(8):
                rule = wrapped(wrap, ("cell", ON), times)
                self.sheet.put((1, 1), rule)
                self.assertEqual(self.sheet.rule((1, 1)), rule)

    def test_nine_deep_and_deeper_is_refused(self):
        for wrap in WRAPS:
            for times in (8, 9, 10, 11, 20, 400, 3000):
                self.refused(TooDeep, (1, 1), wrapped(wrap, NUM, times))

    def test_many_rules_eight_deep_side_by_side(self):
        rule = ("cell", (2, 4, False, False))
        for _ in range(7):
            rule = ("pick", rule, rule, rule)
        self.sheet.put((1, 1), rule)
        self.assertEqual(self.sheet.rule((1, 1)), rule)
        self.refused(TooDeep, (1, 2), ("pick", NUM, NUM, rule))

    def test_the_place_is_refused_before_the_depth(self):
        deep = wrapped(WRAPS[0], NUM, 8)
        for place in [(-1, 0), (0, -1), (3, 0), (0, 5), (FAR, FAR)]:
            self.refused(OffSheet, place, deep)

    def test_the_depth_is_refused_before_a_reference(self):
        for wrap in WRAPS:
            for rule in with_reference((3, 0, False, False)):
                self.refused(TooDeep, (1, 1), wrapped(wrap, rule, 8))
        outside = ("add", ("cell", (-1, -1, False, False)), wrapped(WRAPS[0], NUM, 8))
        self.refused(TooDeep, (1, 1), outside)

    def test_all_three_at_once(self):
        rule = ("add", ("cell", (9, 9, False, False)), wrapped(WRAPS[3], NUM, 9))
        self.refused(OffSheet, (3, 5), rule)
        self.refused(TooDeep, (2, 4), rule)

    def test_what_is_refused_leaves_values_as_they_were(self):
        before = reckoned(self.sheet)
        self.refused(OffSheet, (0, 0), ("cell", (3, 0, False, False)))
        self.refused(TooDeep, (0, 0), wrapped(WRAPS[1], NUM, 8))
        self.assertEqual(reckoned(self.sheet), before)

    def test_a_sheet_of_one_place(self):
        self.sheet = Sheet(1, 1)
        self.sheet.put((0, 0), ("cell", (0, 0, True, True)))
        for place in [(0, 1), (1, 0), (-1, 0), (0, -1)]:
            with self.assertRaises(OffSheet):
                self.sheet.put((0, 0), ("cell", place + (True, True)))
        self.assertEqual(self.sheet.rule((0, 0)), ("cell", (0, 0, True, True)))


if __name__ == "__main__":
    unittest.main()
