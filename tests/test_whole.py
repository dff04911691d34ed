"""Many sheets of mixed rules, held against a second reading of the document.

The second reading is written apart from the package, and plainly: it goes by recursion and by trying all.
"""

import unittest

from rulesheet.errors import OffSheet, TooDeep
from rulesheet.reckon import reckoned, ring, told
from rulesheet.rules import deep, needed, shifted
from rulesheet.sheet import Sheet
from rulesheet.touch import touched

MANY = 1000000000
LEAVES = ["num", "cell", "sum", "most"]
INNER = ["add", "sub", "mul", "pick", "look"]


class Dice:
    """A row of numbers that is the same on each run."""

    def __init__(self, seed):
        self.state = seed

    def below(self, many):
        self.state = (self.state * 6364136223846793005 + 1442695040888963407) % 2 ** 64
        return (self.state >> 33) % many

    def one_of(self, things):
        return things[self.below(len(things))]


def mixed_reference(dice, high, wide, beyond):
    row = dice.below(high + 2 * beyond) - beyond
    column = dice.below(wide + 2 * beyond) - beyond
    return (row, column, dice.below(2) == 1, dice.below(2) == 1)


def mixed_rule(dice, depth, high, wide, beyond=0):
    form = dice.one_of(LEAVES + INNER) if depth > 1 else dice.one_of(LEAVES[:2] * 3 + LEAVES)

    def inner():
        return mixed_rule(dice, depth - 1, high, wide, beyond)

    def reference():
        return mixed_reference(dice, high, wide, beyond)

    if form == "num":
        return ("num", dice.one_of([0, 1, 2, dice.below(9), -dice.below(5), 999999999, 3 * MANY + dice.below(4)]))
    if form == "cell":
        return ("cell", reference())
    if form in ("sum", "most"):
        one = reference()
        return (form, one, dice.one_of([one, reference()]))
    if form in ("add", "sub", "mul"):
        return (form, inner(), inner())
    if form == "pick":
        return ("pick", inner(), inner(), inner())
    return ("look", inner(), reference(), reference(), inner())


def rows_of(one, two):
    """The area of two references as a list of rows of places."""
    top, bottom = sorted([one[0], two[0]])
    left, right = sorted([one[1], two[1]])
    return [[(row, column) for column in range(left, right + 1)] for row in range(top, bottom + 1)]


def second_needed(rule):
    form = rule[0]
    if form == "num":
        return set()
    if form == "cell":
        return {rule[1][:2]}
    if form in ("sum", "most"):
        return {place for row in rows_of(rule[1], rule[2]) for place in row}
    if form == "look":
        own = {place for row in rows_of(rule[2], rule[3]) for place in row}
        return own | second_needed(rule[1]) | second_needed(rule[4])
    return set().union(*[second_needed(inner) for inner in rule[1:]])


def second_told(rule, value):
    form = rule[0]
    if form == "num":
        return rule[1] % MANY
    if form == "cell":
        return value(rule[1][:2])
    if form == "sum":
        return sum(value(place) for row in rows_of(rule[1], rule[2]) for place in row) % MANY
    if form == "most":
        return max(value(place) for row in rows_of(rule[1], rule[2]) for place in row)
    if form == "add":
        return (second_told(rule[1], value) + second_told(rule[2], value)) % MANY
    if form == "sub":
        return (second_told(rule[1], value) - second_told(rule[2], value)) % MANY
    if form == "mul":
        return second_told(rule[1], value) * second_told(rule[2], value) % MANY
    if form == "pick":
        return second_told(rule[3] if second_told(rule[1], value) == 0 else rule[2], value)
    for row in rows_of(rule[2], rule[3]):
        if value(row[0]) == second_told(rule[1], value):
            return value(row[-1])
    return second_told(rule[4], value)


def second_shifted(rule, down, right):
    """Goes by what a part looks like: a tuple of four that begins with a number is a reference."""
    if isinstance(rule, tuple) and isinstance(rule[0], int):
        row, column, row_stays, column_stays = rule
        return (row if row_stays else row + down, column if column_stays else column + right, row_stays, column_stays)
    if isinstance(rule, tuple):
        return tuple([second_shifted(part, down, right) for part in rule])
    return rule


def second_deep(rule):
    inner = [part for part in rule[1:] if isinstance(part, tuple) and isinstance(part[0], str)]
    return 1 + max([second_deep(part) for part in inner], default=0)


def come_to(needs):
    """For each place those that can be come to from it by one need or more."""
    reached = {place: set(needs[place]) for place in needs}
    for middle in needs:
        for place in needs:
            if middle in reached[place]:
                reached[place] |= reached[middle]
    return reached


def second_reading(rules, high, wide):
    """The values of all rules, and for each place what it touches."""
    needs = {place: second_needed(rules[place]) for place in rules}
    reached = come_to(needs)
    rings = {place for place in rules if place in reached[place]}
    kept = {}

    def value(place):
        if place not in kept:
            kept[place] = second_told(rules[place], value)
        return kept[place]

    def shown(place):
        return None if place in rings or reached[place] & rings else value(place)

    values = [[shown((row, column)) for column in range(wide)] for row in range(high)]
    touches = {place: sorted([one for one in rules if one == place or place in reached[one]]) for place in rules}
    return values, touches


def lowered(part, rows):
    """A rule with each of its references so many rows lower, whether the row stays or not."""
    if isinstance(part, tuple) and isinstance(part[0], int):
        return (part[0] + rows,) + part[1:]
    if isinstance(part, tuple):
        return tuple([lowered(one, rows) for one in part])
    return part


def second_fits(rule, high, wide):
    """Whether each reference in a rule lies on a sheet of that size."""
    if isinstance(rule, tuple) and isinstance(rule[0], int):
        return 0 <= rule[0] < high and 0 <= rule[1] < wide
    if isinstance(rule, tuple):
        return all(second_fits(part, high, wide) for part in rule)
    return True


class WholeTest(unittest.TestCase):
    def holds(self, sheet, rules):
        """Holds all that a sheet tells against a second reading of its rules."""
        high, wide = sheet.high, sheet.wide
        self.assertEqual({place: sheet.rule(place) for place in sheet.places()}, rules)
        values, touches = second_reading(rules, high, wide)
        self.assertEqual(reckoned(sheet), values)
        for place in rules:
            self.assertEqual(touched(sheet, place), touches[place])
        found = ring(sheet)
        if all(value is not None for row in values for value in row):
            self.assertIsNone(found)
            return 0
        self.assertEqual(len(set(found)), len(found))
        for place, needs in zip(found, found[1:] + found[:1]):
            self.assertIn(needs, second_needed(rules[place]))
        return 1

    def test_rules_alone(self):
        dice = Dice(1)
        values = {(row, column): dice.one_of([0, 1, 2, 3, 999999999]) for row in range(4) for column in range(5)}
        for count in range(4000):
            rule = mixed_rule(dice, 1 + count % 6, 4, 5)
            self.assertEqual(deep(rule), second_deep(rule))
            self.assertEqual(needed(rule), sorted(second_needed(rule)))
            known = {place: values[place] for place in needed(rule)}
            self.assertEqual(told(rule, known), second_told(rule, values.get))
            down, right = dice.below(9) - 4, dice.below(9) - 4
            self.assertEqual(shifted(rule, down, right), second_shifted(rule, down, right))

    def test_sheets_of_mixed_rules(self):
        dice = Dice(2)
        with_rings = 0
        for count in range(150):
            high, wide = 1 + dice.below(4), 1 + dice.below(4)
            sheet, rules = Sheet(high, wide), {}
            for place in sheet.places():
                rules[place] = ("num", 0)
            for _ in range(high * wide):
                place = dice.one_of(sheet.places())
                rules[place] = mixed_rule(dice, 1 + count % 3, high, wide)
                sheet.put(place, rules[place])
                with_rings += self.holds(sheet, rules)
        # Of both there must be many, or this shows little.
        self.assertGreater(with_rings, 150)

    def test_sheets_without_rings(self):
        dice = Dice(3)
        for _ in range(40):
            high, wide = 2 + dice.below(4), 2 + dice.below(4)
            sheet, rules = Sheet(high, wide), {}
            upward = dice.below(2) == 1
            for place in sheet.places():
                # Each cell needs places of rows on one side of its own only.
                many = high - 1 - place[0] if upward else place[0]
                first = place[0] + 1 if upward else 0
                rules[place] = ("num", dice.below(4))
                if many:
                    rules[place] = lowered(mixed_rule(dice, 3, many, wide), first)
                sheet.put(place, rules[place])
            self.assertEqual(self.holds(sheet, rules), 0)

    def test_copies_and_fillings(self):
        dice = Dice(4)
        taken = refused = 0
        for _ in range(1500):
            high, wide = 1 + dice.below(5), 1 + dice.below(5)
            sheet = Sheet(high, wide)
            source = dice.one_of(sheet.places())
            sheet.put(source, mixed_rule(dice, 1 + dice.below(2), high, wide))
            rules = {place: sheet.rule(place) for place in sheet.places()}
            one, two = dice.one_of(sheet.places()), dice.one_of(sheet.places())
            single = dice.below(2) == 1
            targets = [one] if single else [place for row in rows_of(one, two) for place in row]
            wanted = dict(rules)
            for target in targets:
                wanted[target] = second_shifted(rules[source], target[0] - source[0], target[1] - source[1])
            fits = all(second_fits(wanted[target], high, wide) for target in targets)
            try:
                told_back = sheet.copied(source, one) if single else sheet.filled(source, one, two)
                self.assertIsNone(told_back)
                self.assertTrue(fits)
                rules = wanted
                taken += 1
            except OffSheet:
                self.assertFalse(fits)
                refused += 1
            self.assertEqual({place: sheet.rule(place) for place in sheet.places()}, rules)
        self.assertGreater(min(taken, refused), 300)

    def test_what_is_put_and_what_is_refused(self):
        dice = Dice(5)
        counts = {None: 0, OffSheet: 0, TooDeep: 0}
        for count in range(3000):
            high, wide = 1 + dice.below(12), 1 + dice.below(12)
            sheet = Sheet(high, wide)
            rule = mixed_rule(dice, 1 + dice.below(3), high, wide, dice.below(2))
            for _ in range(dice.below(10)):
                rule = ("sub", rule, ("num", 1)) if dice.below(2) else ("pick", ("num", 0), ("num", 1), rule)
            place = (dice.below(high + 2) - 1, dice.below(wide + 2) - 1) if count % 4 == 0 else (0, 0)
            kind = None
            if not second_fits(rule, high, wide):
                kind = OffSheet
            if second_deep(rule) > 8:
                kind = TooDeep
            if place not in sheet.places():
                kind = OffSheet
            rules = {one: ("num", 0) for one in sheet.places()}
            if kind is None:
                sheet.put(place, rule)
                rules[place] = rule
            else:
                with self.assertRaises(kind):
                    sheet.put(place, rule)
            self.assertEqual({one: sheet.rule(one) for one in sheet.places()}, rules)
            counts[kind] += 1
        self.assertGreater(min(counts.values()), 300)


if __name__ == "__main__":
    unittest.main()
