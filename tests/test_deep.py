"""How deep a rule is."""

import unittest

from rulesheet.rules import deep

A = (0, 0, False, False)
B = (3, 2, True, False)
NUM = ("num", 7)
LEAVES = [NUM, ("num", 0), ("num", -(10 ** 40)), ("cell", A), ("sum", A, B), ("most", A, B)]
# Each puts a rule into another one, so that no position in which a rule can stand is left out.
WRAPS = [
    lambda rule: ("add", rule, NUM),
    lambda rule: ("add", NUM, rule),
    lambda rule: ("sub", rule, NUM),
    lambda rule: ("sub", NUM, rule),
    lambda rule: ("mul", rule, NUM),
    lambda rule: ("mul", NUM, rule),
    lambda rule: ("pick", rule, NUM, NUM),
    lambda rule: ("pick", NUM, rule, NUM),
    lambda rule: ("pick", NUM, NUM, rule),
    lambda rule: ("look", rule, A, B, NUM),
    lambda rule: ("look", NUM, A, B, rule),
]


def within(wrap, rule, times):
    for _ in range(times):
        rule = wrap(rule)
    return rule


class DeepTest(unittest.TestCase):
    def test_one_deep_where_no_rule_stands_within(self):
        for leaf in LEAVES:
            self.assertEqual(deep(leaf), 1)

    def test_two_deep_where_leaves_stand_within(self):
        for wrap in WRAPS:
            for leaf in LEAVES:
                self.assertEqual(deep(wrap(leaf)), 2)

    def test_every_position_at_many_depths(self):
        for wrap in WRAPS:
            for times in range(20):
                self.assertEqual(deep(within(wrap, NUM, times)), times + 1)

    def test_positions_within_each_other(self):
        for outer in WRAPS:
            for inner in WRAPS:
                self.assertEqual(deep(outer(inner(("cell", A)))), 3)
        rule = NUM
        for wrap in WRAPS:
            rule = wrap(rule)
        self.assertEqual(deep(rule), len(WRAPS) + 1)

    def test_the_deepest_inner_rule_counts(self):
        chain = [within(WRAPS[0], NUM, times) for times in range(6)]
        for left in range(6):
            for right in range(6):
                self.assertEqual(deep(("add", chain[left], chain[right])), max(left, right) + 2)
                self.assertEqual(deep(("look", chain[left], A, B, chain[right])), max(left, right) + 2)
                self.assertEqual(deep(("pick", chain[left], NUM, chain[right])), max(left, right) + 2)
                self.assertEqual(deep(("pick", chain[left], chain[right], NUM)), max(left, right) + 2)

    def test_many_rules_side_by_side(self):
        rule = NUM
        for times in range(1, 8):
            rule = ("pick", rule, rule, rule)
            self.assertEqual(deep(rule), times + 1)

    def test_far_deeper_than_a_sheet_takes(self):
        for wrap in WRAPS:
            self.assertEqual(deep(within(wrap, NUM, 5000)), 5001)

    def test_a_whole_number_is_told(self):
        self.assertIs(type(deep(NUM)), int)

    def test_what_is_handed_in_is_not_changed(self):
        rule = ("pick", ("cell", A), ("num", 10 ** 12), ("look", NUM, A, B, ("sum", B, A)))
        deep(rule)
        self.assertEqual(
            rule,
            (
                "pick",
                ("cell", (0, 0, False, False)),
                ("num", 10 ** 12),
                ("look", ("num", 7), (0, 0, False, False), (3, 2, True, False),
                 ("sum", (3, 2, True, False), (0, 0, False, False))),
            ),
        )


if __name__ == "__main__":
    unittest.main()
