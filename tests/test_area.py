"""Areas: which places, in which order, from which two references or places."""

import unittest

from rulesheet.rules import area

FAR = 10 ** 30
STAYS = [(False, False), (False, True), (True, False), (True, True)]


def four_orders(top, left, bottom, right):
    """The two corners of an area in each of their four orders."""
    return [
        ((top, left), (bottom, right)),
        ((bottom, right), (top, left)),
        ((top, right), (bottom, left)),
        ((bottom, left), (top, right)),
    ]


class AreaTest(unittest.TestCase):
    def holds(self, corners, places):
        """Asks for an area in each order, of places, of references, and of one of each."""
        for one, two in four_orders(*corners):
            self.assertEqual(area(one, two), places)
            for first in STAYS:
                for second in STAYS:
                    self.assertEqual(area(one + first, two + second), places)
                self.assertEqual(area(one, two + first), places)
                self.assertEqual(area(one + first, two), places)

    def test_one_place(self):
        self.holds((0, 0, 0, 0), [(0, 0)])
        self.holds((3, 5, 3, 5), [(3, 5)])

    def test_one_row(self):
        self.holds((2, 1, 2, 4), [(2, 1), (2, 2), (2, 3), (2, 4)])
        self.holds((0, 0, 0, 1), [(0, 0), (0, 1)])

    def test_one_column(self):
        self.holds((1, 2, 4, 2), [(1, 2), (2, 2), (3, 2), (4, 2)])
        self.holds((0, 0, 1, 0), [(0, 0), (1, 0)])

    def test_row_by_row_each_from_the_left(self):
        self.holds((1, 4, 2, 6), [(1, 4), (1, 5), (1, 6), (2, 4), (2, 5), (2, 6)])
        self.holds((0, 0, 2, 1), [(0, 0), (0, 1), (1, 0), (1, 1), (2, 0), (2, 1)])

    def test_whole_sheet(self):
        self.holds((0, 0, 11, 11), [(row, column) for row in range(12) for column in range(12)])

    def test_below_nought(self):
        self.holds((-3, -2, -3, -2), [(-3, -2)])
        self.holds((-2, -1, -1, 1), [(-2, -1), (-2, 0), (-2, 1), (-1, -1), (-1, 0), (-1, 1)])
        self.holds((-1, -4, 1, -3), [(-1, -4), (-1, -3), (0, -4), (0, -3), (1, -4), (1, -3)])

    def test_far_off(self):
        self.holds((FAR, -FAR, FAR, -FAR), [(FAR, -FAR)])
        self.holds(
            (FAR, -FAR - 1, FAR + 1, -FAR),
            [(FAR, -FAR - 1), (FAR, -FAR), (FAR + 1, -FAR - 1), (FAR + 1, -FAR)],
        )
        self.holds((-FAR - 1, FAR, -FAR, FAR), [(-FAR - 1, FAR), (-FAR, FAR)])
        self.holds((5, FAR - 1, 5, FAR + 1), [(5, FAR - 1), (5, FAR), (5, FAR + 1)])

    def test_places_are_tuples_of_two_whole_numbers(self):
        told = area((0, 1, True, False), (1, 0, False, True))
        self.assertIs(type(told), list)
        for place in told:
            self.assertIs(type(place), tuple)
            self.assertEqual([type(number) for number in place], [int, int])

    def test_what_is_told_is_the_askers_own(self):
        told = area((0, 0), (1, 1))
        told.reverse()
        told.append("more")
        self.assertEqual(area((0, 0), (1, 1)), [(0, 0), (0, 1), (1, 0), (1, 1)])
        single = area((4, 4), (4, 4))
        single.clear()
        self.assertEqual(area((4, 4), (4, 4)), [(4, 4)])

    def test_what_was_told_stays_as_it_was(self):
        told = area((0, 0), (0, 1))
        area((5, 5), (6, 6))
        self.assertEqual(told, [(0, 0), (0, 1)])

    def test_what_is_handed_in_is_not_changed(self):
        one, two = (2, 3, True, False), (1, 4, False, True)
        area(one, two)
        self.assertEqual((one, two), ((2, 3, True, False), (1, 4, False, True)))


if __name__ == "__main__":
    unittest.main()
