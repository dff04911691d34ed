"""Rules that are copied from one place to another one."""

import unittest

from rulesheet.errors import OffSheet
from rulesheet.reckon import reckoned
from rulesheet.sheet import Sheet

FAR = 10 ** 30
# Python writes out no number this long unless it is told to.
ENDLESS = 10 ** 5000
STAYS = [(False, False), (False, True), (True, False), (True, True)]


def grown(row, column, stays, down, right):
    """The reference that the document asks for, told case by case."""
    return {
        (False, False): (row + down, column + right, False, False),
        (False, True): (row + down, column, False, True),
        (True, False): (row, column + right, True, False),
        (True, True): (row, column, True, True),
    }[stays]


def on_sheet(reference, high, wide):
    return 0 <= reference[0] < high and 0 <= reference[1] < wide


class CopiedTest(unittest.TestCase):
    def setUp(self):
        self.sheet = Sheet(6, 7)

    def rules(self):
        return {place: self.sheet.rule(place) for place in self.sheet.places()}

    def taken(self, source, target, wanted):
        before = self.rules()
        self.assertIsNone(self.sheet.copied(source, target))
        before[target] = wanted
        self.assertEqual(self.rules(), before)

    def refused(self, source, target):
        before = self.rules()
        with self.assertRaises(OffSheet):
            self.sheet.copied(source, target)
        self.assertEqual(self.rules(), before)

    def test_down_and_right_by_hand(self):
        self.sheet.put((1, 1), ("cell", (2, 3, False, False)))
        self.taken((1, 1), (2, 4), ("cell", (3, 6, False, False)))

    def test_up_and_left_by_hand(self):
        self.sheet.put((3, 5), ("add", ("cell", (2, 4, False, False)), ("cell", (4, 6, True, False))))
        self.taken((3, 5), (1, 1), ("add", ("cell", (0, 0, False, False)), ("cell", (4, 2, True, False))))

    def test_all_targets_in_each_way(self):
        source = (2, 3)
        for stays in STAYS:
            for target in self.sheet.places():
                self.sheet = Sheet(6, 7)
                self.sheet.put((0, 0), ("num", 4))
                self.sheet.put(source, ("cell", (3, 2) + stays))
                wanted = grown(3, 2, stays, target[0] - 2, target[1] - 3)
                if on_sheet(wanted, 6, 7):
                    self.taken(source, target, ("cell", wanted))
                else:
                    self.refused(source, target)

    def test_both_references_in_each_way(self):
        for one in STAYS:
            for two in STAYS:
                for target in [(0, 0), (2, 3), (1, 2), (3, 4), (5, 6), (2, 0), (5, 3)]:
                    down, right = target[0] - 2, target[1] - 3
                    moved = (grown(1, 2, one, down, right), grown(4, 5, two, down, right))
                    first, last = (1, 2) + one, (4, 5) + two
                    rules = [
                        (("sum", first, last), ("sum",) + moved),
                        (("most", first, last), ("most",) + moved),
                        (("look", ("num", 1), first, last, ("num", 2)), ("look", ("num", 1)) + moved + (("num", 2),)),
                    ]
                    for rule, wanted in rules:
                        self.sheet = Sheet(6, 7)
                        self.sheet.put((2, 3), rule)
                        if on_sheet(moved[0], 6, 7) and on_sheet(moved[1], 6, 7):
                            self.taken((2, 3), target, wanted)
                        else:
                            self.refused((2, 3), target)

    def test_however_deep_a_reference_stands(self):
        rule, wanted = ("cell", (1, 1, False, False)), ("cell", (0, 3, False, False))
        for _ in range(3):
            rule = ("pick", ("num", 1), rule, ("cell", (0, 6, True, True)))
            wanted = ("pick", ("num", 1), wanted, ("cell", (0, 6, True, True)))
        for _ in range(4):
            rule = ("look", ("num", 1), (0, 0, True, True), (0, 0, True, True), rule)
            wanted = ("look", ("num", 1), (0, 0, True, True), (0, 0, True, True), wanted)
        self.sheet.put((1, 0), rule)
        self.taken((1, 0), (0, 2), wanted)
        self.refused((0, 2), (0, 6))
        self.refused((1, 0), (5, 6))

    def test_onto_itself(self):
        for stays in STAYS:
            rule = ("sum", (0, 0) + stays, (5, 6) + stays)
            self.sheet.put((5, 6), rule)
            self.taken((5, 6), (5, 6), rule)

    def test_a_number_goes_anywhere(self):
        self.sheet.put((0, 0), ("num", -8))
        for target in self.sheet.places():
            self.taken((0, 0), target, ("num", -8))

    def test_the_rule_that_the_source_has_now(self):
        self.sheet.put((0, 0), ("num", 1))
        self.sheet.copied((0, 0), (1, 1))
        self.sheet.put((0, 0), ("num", 2))
        self.assertEqual(self.sheet.rule((1, 1)), ("num", 1))
        self.sheet.copied((0, 0), (1, 1))
        self.assertEqual(self.sheet.rule((1, 1)), ("num", 2))
        self.sheet.put((1, 1), ("num", 3))
        self.assertEqual(self.sheet.rule((0, 0)), ("num", 2))

    def test_a_copy_of_a_copy(self):
        self.sheet.put((0, 0), ("cell", (0, 1, False, False)))
        self.taken((0, 0), (2, 2), ("cell", (2, 3, False, False)))
        self.taken((2, 2), (1, 5), ("cell", (1, 6, False, False)))
        self.taken((1, 5), (0, 0), ("cell", (0, 1, False, False)))

    def test_source_or_target_off_the_sheet(self):
        off = [(-1, 0), (0, -1), (6, 0), (0, 7), (-6, 0), (0, -7), (6, 7), (-1, -1), (FAR, 0), (0, -FAR)]
        off += [(ENDLESS, 0), (0, ENDLESS), (-ENDLESS, -ENDLESS)]
        for place in off:
            self.refused(place, (0, 0))
            self.refused((0, 0), place)
            self.refused(place, place)
            for other in off:
                self.refused(place, other)

    def test_a_reference_of_the_copy_off_each_side(self):
        self.sheet.put((3, 3), ("cell", (0, 3, False, False)))
        self.refused((3, 3), (2, 3))
        self.sheet.put((3, 3), ("cell", (5, 3, False, False)))
        self.refused((3, 3), (4, 3))
        self.sheet.put((3, 3), ("cell", (3, 0, False, False)))
        self.refused((3, 3), (3, 2))
        self.sheet.put((3, 3), ("cell", (3, 6, False, False)))
        self.refused((3, 3), (3, 4))

    def test_one_reference_of_several_off_the_sheet(self):
        on, edge = (3, 3, False, False), (3, 6, False, False)
        for rule in [
            ("sum", on, edge),
            ("sum", edge, on),
            ("most", on, edge),
            ("most", edge, on),
            ("look", ("num", 0), on, edge, ("num", 0)),
            ("look", ("num", 0), edge, on, ("num", 0)),
            ("look", ("cell", edge), on, on, ("num", 0)),
            ("look", ("num", 0), on, on, ("cell", edge)),
            ("add", ("cell", on), ("cell", edge)),
            ("sub", ("cell", edge), ("cell", on)),
            ("pick", ("cell", on), ("cell", edge), ("cell", on)),
        ]:
            self.sheet.put((0, 0), rule)
            self.refused((0, 0), (0, 1))
            self.sheet.copied((0, 0), (1, 0))

    def test_values_follow_the_copy(self):
        self.sheet.put((0, 0), ("num", 5))
        self.sheet.put((0, 1), ("num", 6))
        self.sheet.put((1, 0), ("add", ("cell", (0, 0, False, False)), ("cell", (0, 0, True, True))))
        self.sheet.copied((1, 0), (1, 1))
        self.assertEqual(reckoned(self.sheet)[1][:3], [10, 11, 0])

    def test_another_sheet_stays_as_it_was(self):
        other = Sheet(6, 7)
        self.sheet.put((0, 0), ("num", 5))
        self.sheet.copied((0, 0), (3, 3))
        for place in other.places():
            self.assertEqual(other.rule(place), ("num", 0))

    def test_by_the_names_of_the_arguments(self):
        self.sheet.put((0, 0), ("num", 5))
        self.sheet.copied(target=(1, 2), source=(0, 0))
        self.assertEqual(self.sheet.rule((1, 2)), ("num", 5))


if __name__ == "__main__":
    unittest.main()
