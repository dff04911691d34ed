"""Sheets: places, each of which has a rule."""

from rulesheet.errors import BadSize, OffSheet, TooDeep
from rulesheet.rules import all_references, area, deep, shifted

LARGEST = 12
DEEPEST = 8


class Sheet:
    """So many rows and columns of places, each with a rule.

    The words of a refusal name no number, as Python does not write out very long ones.
    """

    def __init__(self, high, wide):
        if not (1 <= high <= LARGEST and 1 <= wide <= LARGEST):
            raise BadSize(f"a sheet has 1 to {LARGEST} rows and 1 to {LARGEST} columns")
        self.high = high
        self.wide = wide
        self._rules = {place: ("num", 0) for place in self.places()}

    def places(self):
        """All places, row by row, each row from the left."""
        return area((0, 0), (self.high - 1, self.wide - 1))

    def rule(self, place):
        """The rule at a place."""
        self._refuse_off(place)
        return self._rules[place]

    def put(self, place, rule):
        """Gives a place another rule."""
        self._refuse_off(place)
        if deep(rule) > DEEPEST:
            raise TooDeep(f"a rule is at most {DEEPEST} deep")
        self._refuse_references_off(rule)
        self._rules[place] = rule

    def copied(self, source, target):
        """Copies the rule of one place to another one."""
        self._refuse_off(source)
        self._refuse_off(target)
        self._rules[target] = self._copy(source, target)

    def filled(self, source, one, two):
        """Copies the rule of a place to each place of an area."""
        for place in (source, one, two):
            self._refuse_off(place)
        # All copies are made before the first one is put, as any of them may be refused.
        copies = {place: self._copy(source, place) for place in area(one, two)}
        for place in copies:
            self._rules[place] = copies[place]

    def _copy(self, source, target):
        """The rule of one place as it is copied to another one."""
        made = shifted(self._rules[source], target[0] - source[0], target[1] - source[1])
        self._refuse_references_off(made)
        return made

    def _refuse_references_off(self, rule):
        """Refuses a rule with a reference off the sheet, however deep it stands."""
        for reference in all_references(rule):
            self._refuse_off(reference)

    def _refuse_off(self, place):
        """Refuses a place, or a reference, that lies off the sheet."""
        if not (0 <= place[0] < self.high and 0 <= place[1] < self.wide):
            raise OffSheet("a place or a reference lies off the sheet")
